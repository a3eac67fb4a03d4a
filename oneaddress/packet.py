"""An IPv4 packet as a list of bytes: where its fields stand, when it is whole, how it is rewritten."""

ECHO = 1
TCP = 6
UDP = 17

ECHO_ANSWER = 0
ECHO_REQUEST = 8

LENGTH_PLACE = 2
PIECE_PLACE = 6
STEPS_PLACE = 8
PROTOCOL_PLACE = 9
HEAD_CHECKSUM_PLACE = 10
SENDER_PLACE = 12
RECEIVER_PLACE = 16

LEAST_HEAD = 20
LEAST_UDP = 8
LEAST_TCP = 20
LEAST_ECHO = 8
MOST_BYTES = 65535


def word_at(packet, place):
    return packet[place] * 256 + packet[place + 1]


def set_word(packet, place, word):
    packet[place] = word // 256
    packet[place + 1] = word % 256


def address_at(packet, place):
    return word_at(packet, place) * 65536 + word_at(packet, place + 2)


def set_address(packet, place, address):
    set_word(packet, place, address // 65536)
    set_word(packet, place + 2, address % 65536)


def summed(number):
    while number > 65535:
        number = number % 65536 + number // 65536
    return number


def head_length(packet):
    return packet[0] % 16 * 4


def head_sum(packet):
    total = 0
    for place in range(0, head_length(packet), 2):
        total = total + word_at(packet, place)
    return summed(total)


def is_whole(packet):
    size = len(packet)
    if size < LEAST_HEAD or size > MOST_BYTES:
        return False
    head = head_length(packet)
    if packet[0] // 16 != 4 or head < LEAST_HEAD:
        return False
    length = word_at(packet, LENGTH_PLACE)
    if length < head or length > size:
        return False
    return head_sum(packet) == 65535


def is_piece(packet):
    return word_at(packet, PIECE_PLACE) % 16384 != 0


def carries_known(packet, echo_kind):
    start = head_length(packet)
    # Bytes past the packet's length are nobody's, so how many there are in all says nothing here.
    size = word_at(packet, LENGTH_PLACE) - start
    protocol = packet[PROTOCOL_PLACE]
    if protocol == UDP:
        return size >= LEAST_UDP and udp_length_fits(packet, start, size)
    if protocol == TCP:
        return size >= LEAST_TCP
    if protocol == ECHO:
        return size >= LEAST_ECHO and packet[start] == echo_kind and packet[start + 1] == 0
    return False


def udp_length_fits(packet, start, size):
    length = word_at(packet, start + 4)
    return length >= LEAST_UDP and length <= size


def sender_port_place(packet):
    start = head_length(packet)
    return start + 4 if packet[PROTOCOL_PLACE] == ECHO else start


def receiver_port_place(packet):
    start = head_length(packet)
    return start + 4 if packet[PROTOCOL_PLACE] == ECHO else start + 2


def carried_checksum_place(packet):
    start = head_length(packet)
    if packet[PROTOCOL_PLACE] == UDP:
        return start + 6
    if packet[PROTOCOL_PLACE] == TCP:
        return start + 16
    return start + 2


def rewrite(packet, address_place, port_place, address, port):
    before = covered_words(packet, address_place, port_place)
    set_address(packet, address_place, address)
    set_word(packet, port_place, port)
    after = covered_words(packet, address_place, port_place)
    packet[STEPS_PLACE] = packet[STEPS_PLACE] - 1
    set_head_checksum(packet)
    bring_checksum_along(packet, before, after)


# Of the words that are rewritten, those that the carried checksum is over: an echo's leaves addresses out.
def covered_words(packet, address_place, port_place):
    port = word_at(packet, port_place)
    if packet[PROTOCOL_PLACE] == ECHO:
        return [port]
    return [word_at(packet, address_place), word_at(packet, address_place + 2), port]


def set_head_checksum(packet):
    set_word(packet, HEAD_CHECKSUM_PLACE, 0)
    set_word(packet, HEAD_CHECKSUM_PLACE, 65535 - head_sum(packet))


def bring_checksum_along(packet, before, after):
    place = carried_checksum_place(packet)
    checksum = word_at(packet, place)
    is_udp = packet[PROTOCOL_PLACE] == UDP
    # 0 says that there is no UDP checksum, so one that comes out as 0 must be told otherwise.
    if is_udp and checksum == 0:
        return
    checksum = moved_checksum(checksum, before, after)
    if is_udp and checksum == 0:
        checksum = 65535
    set_word(packet, place, checksum)


def moved_checksum(checksum, before, after):
    # A word that stays the same is not passed over: it still turns a checksum of 65535 into 0.
    total = 65535 - checksum
    for word in before:
        total = total + 65535 - word
    for word in after:
        total = total + word
    return 65535 - summed(total)
