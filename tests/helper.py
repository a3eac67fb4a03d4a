"""Packets and calls for the tests, with sums reckoned otherwise than the program does."""

from oneaddress.house import answers

ECHO, TCP, UDP = 1, 6, 17
OUTSIDE = 0xC6336401
PEER = 0xCB007109
HOST = 0x0A000005
OTHER_HOST = 0x0A0000C8


def split_word(word):
    return list(divmod(word, 256))


def split_address(address):
    return list(address.to_bytes(4, "big"))


def checksum_over(data):
    """The one's complement checksum, by a remainder in the place of folding."""
    padded = list(data) + [0] * (len(data) % 2)
    total = sum(high * 256 + low for high, low in zip(padded[::2], padded[1::2]))
    return 65535 - ((total - 1) % 65535 + 1 if total else 0)


def head_over(protocol, source, target, size, first=None, length=None, ident=0x1234, piece=0, steps=64,
              options=(), off=0, head_checksum=None):
    """A head with a right checksum, but for what is asked for otherwise."""
    whole = 20 + len(options)
    first = 0x40 + whole // 4 if first is None else first
    length = whole + size if length is None else length
    before = [first, 0x1C] + split_word(length) + split_word(ident) + split_word(piece) + [steps, protocol]
    behind = split_address(source) + split_address(target) + list(options)
    if head_checksum is None:
        head_checksum = (checksum_over(before + behind) + off) % 65536
    return before + split_word(head_checksum) + behind


def packet_of(protocol, source, target, carried, past=(), **head):
    return head_over(protocol, source, target, len(carried), **head) + list(carried) + list(past)


def pseudo_head(protocol, source, target, carried):
    return split_address(source) + split_address(target) + [0, protocol] + split_word(len(carried))


def udp(source=(HOST, 5000), target=(PEER, 53), data=(1, 2, 3), udp_length=None, checksum=None, **head):
    udp_length = 8 + len(data) if udp_length is None else udp_length
    start = split_word(source[1]) + split_word(target[1]) + split_word(udp_length)
    if checksum is None:
        plain = start + [0, 0] + list(data)
        checksum = checksum_over(pseudo_head(UDP, source[0], target[0], plain) + plain) or 65535
    return packet_of(UDP, source[0], target[0], start + split_word(checksum) + list(data), **head)


def tcp(source=(HOST, 5000), target=(PEER, 80), data=(7, 8, 9), checksum=None, **head):
    start = split_word(source[1]) + split_word(target[1]) + [0, 0, 0, 1, 0, 0, 0, 2, 0x50, 0x18, 0x20, 0]
    if checksum is None:
        plain = start + [0, 0, 0, 0] + list(data)
        checksum = checksum_over(pseudo_head(TCP, source[0], target[0], plain) + plain)
    return packet_of(TCP, source[0], target[0], start + split_word(checksum) + [0, 0] + list(data), **head)


def echo(source, target, number, kind, second=0, data=(4, 5), checksum=None, **head):
    behind = split_word(number) + [0, 1] + list(data)
    if checksum is None:
        checksum = checksum_over([kind, second, 0, 0] + behind)
    return packet_of(ECHO, source, target, [kind, second] + split_word(checksum) + behind, **head)


def echo_request(source=(HOST, 5000), target=PEER, **rest):
    return echo(source[0], target, source[1], 8, **rest)


def echo_answer(target=(OUTSIDE, 5000), source=PEER, **rest):
    return echo(source, target[0], target[1], 0, **rest)


def sent(protocol, source, **rest):
    """A packet of a protocol that goes out, or that has gone out."""
    return {UDP: udp, TCP: tcp, ECHO: echo_request}[protocol](source=source, **rest)


def answered(protocol, target, **rest):
    """A packet of a protocol that comes in, or that has come in."""
    if protocol == ECHO:
        return echo_answer(target=target, **rest)
    return {UDP: udp, TCP: tcp}[protocol](source=(PEER, 443), target=target, **rest)


def begin(outside=OUTSIDE):
    return [0, outside]


def out(packet, now=0):
    return [1, now, len(packet)] + packet


def come_in(packet, now=0):
    return [2, now, len(packet)] + packet


def count(now=0):
    return [3, now]


def find(protocol, port, now=0):
    return [4, protocol, port, now]


def ask(*calls):
    """The answers to these calls, a list each."""
    told = answers([number for call in calls for number in call])
    rows = []
    while told:
        size = told[0]
        rows.append(told[1:1 + size])
        assert len(rows[-1]) == size, "an answer is shorter than its count"
        told = told[1 + size:]
    assert len(rows) == len(calls), "not one answer a call"
    return rows


def last(*calls):
    """The answer to the last of these calls, on a house that has begun."""
    return ask(begin(), *calls)[-1]
