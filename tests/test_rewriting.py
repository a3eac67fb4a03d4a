"""Promise 6: the step, the head's checksum, and the carried checksum."""

import random
import unittest

from tests.helper import ECHO, HOST, OUTSIDE, TCP, UDP
from tests.helper import answered, ask, begin, checksum_over, come_in, echo_request, last, out, sent, split_word
from tests.helper import tcp, udp

PROTOCOLS = (UDP, TCP, ECHO)
CHECKSUM_PLACES = {UDP: 6, TCP: 16, ECHO: 2}


def numbers(text):
    return list(bytes.fromhex(text))


def carried_checksum(packet):
    place = packet[0] % 16 * 4 + CHECKSUM_PLACES[packet[9]]
    return packet[place] * 256 + packet[place + 1]


def with_checksum(packet, checksum):
    place = packet[0] % 16 * 4 + CHECKSUM_PLACES[packet[9]]
    return packet[:place] + split_word(checksum) + packet[place + 2:]


class Bytes(unittest.TestCase):
    def test_a_packet_written_out(self):
        data = "1e4bc18000010000"
        given = numbers("4500 0024 0000 4000 4011 b8b0 c0a80001 c0a800c7 0035 e97c 0010 279f" + data)
        # Head: b8b0 less (c633 - c0a8) + (6401 - 0001) - 0100. UDP: 279f less 058b + 6400 + (0400 - 0035).
        wanted = numbers("4500 0024 0000 4000 3f11 5025 c6336401 c0a800c7 0400 e97c 0010 ba48" + data)
        self.assertEqual(last(out(given)), [0] + wanted)

    def test_an_answer_written_out(self):
        bound = numbers("4500 0024 0000 4000 4011 b8b0 c0a80001 c0a800c7 0035 e97c 0010 0000 1e4bc18000010000")
        given = numbers("4500 001c 0000 0000 0211 d3ad c0a800c7 c6336401 e97c 0400 0008 ba48")
        given[10:12] = split_word(checksum_over(given[:10] + given[12:20]))
        wanted = numbers("4500 001c 0000 0000 0111 0000 c0a800c7 c0a80001 e97c 0035 0008 279f")
        wanted[10:12] = split_word(checksum_over(wanted[:10] + wanted[12:20]))
        self.assertEqual(last(out(bound), come_in(given)), [0] + wanted)

    def test_the_byte_at_eight(self):
        for steps in (2, 3, 64, 255):
            for protocol in PROTOCOLS:
                rows = ask(begin(), out(sent(protocol, (HOST, 5000), steps=steps)),
                           come_in(answered(protocol, (OUTSIDE, 5000), steps=steps)))
                self.assertEqual(rows[1], [0] + sent(protocol, (OUTSIDE, 5000), steps=steps - 1))
                self.assertEqual(rows[2], [0] + answered(protocol, (HOST, 5000), steps=steps - 1))

    def test_longer_heads(self):
        for words in range(11):
            options = [(7 * index + words) % 256 for index in range(4 * words)]
            for protocol in PROTOCOLS:
                rows = ask(begin(), out(sent(protocol, (HOST, 9), options=options)),
                           come_in(answered(protocol, (OUTSIDE, 1024), options=options)))
                self.assertEqual(rows[1], [0] + sent(protocol, (OUTSIDE, 1024), steps=63, options=options))
                self.assertEqual(rows[2], [0] + answered(protocol, (HOST, 9), steps=63, options=options))

    def test_all_other_bytes_stay(self):
        for past in ([], [1], [255, 0, 254], [77] * 50):
            for data in ([], [200], list(range(256))):
                rest = {"past": past, "data": data, "piece": 0xC000, "ident": 0xBEEF}
                for protocol in PROTOCOLS:
                    rows = ask(begin(), out(sent(protocol, (HOST, 9), **rest)),
                               come_in(answered(protocol, (OUTSIDE, 1024), **rest)))
                    self.assertEqual(rows[1], [0] + sent(protocol, (OUTSIDE, 1024), steps=63, **rest))
                    self.assertEqual(rows[2], [0] + answered(protocol, (HOST, 9), steps=63, **rest))

    def test_a_udp_length_shorter_than_what_is_behind_the_head(self):
        given = udp(udp_length=9, checksum=0)
        self.assertEqual(last(out(given)), [0] + udp(source=(OUTSIDE, 5000), udp_length=9, checksum=0, steps=63))

    def test_many_packets_by_their_whole_sums(self):
        chance = random.Random(7)
        for turn in range(300):
            protocol = chance.choice(PROTOCOLS)
            outside, host = chance.getrandbits(32), chance.getrandbits(32)
            port = chance.choice((chance.randrange(1024), chance.randrange(1024, 65536)))
            outside_port = port if port >= 1024 else 1024
            rest = {"data": chance.choices(range(256), k=chance.randrange(60)), "ident": chance.getrandbits(16),
                    "options": chance.choices(range(256), k=4 * chance.randrange(11))}
            rows = ask(begin(outside), out(sent(protocol, (host, port), **rest)),
                       come_in(answered(protocol, (outside, outside_port), **rest)))
            self.assertEqual(rows[1], [0] + sent(protocol, (outside, outside_port), steps=63, **rest))
            self.assertEqual(rows[2], [0] + answered(protocol, (host, port), steps=63, **rest))


class HeadChecksum(unittest.TestCase):
    def test_comes_out_as_0_and_not_as_65535(self):
        ident = checksum_over(udp(source=(OUTSIDE, 5000), steps=63, ident=0, head_checksum=0)[:20])
        wanted = udp(source=(OUTSIDE, 5000), steps=63, ident=ident)
        self.assertEqual(wanted[10:12], [0, 0])
        self.assertEqual(last(out(udp(ident=ident))), [0] + wanted)

    def test_is_set_anew_where_65535_stood_for_0(self):
        ident = checksum_over(udp(ident=0, head_checksum=0)[:20])
        wanted = [0] + udp(source=(OUTSIDE, 5000), steps=63, ident=ident)
        for head_checksum in (0, 65535):
            self.assertEqual(last(out(udp(ident=ident, head_checksum=head_checksum))), wanted)


class CarriedChecksum(unittest.TestCase):
    def assert_moved(self, given, wanted):
        """The first packet goes out as the second, whatever its checksums."""
        self.assertEqual(last(out(given)), [0] + wanted)

    def difference(self, protocol, port, outside_port):
        """What the checksum of a right packet loses on its way out, modulo 65535."""
        before = carried_checksum(sent(protocol, (HOST, port)))
        return (before - carried_checksum(sent(protocol, (OUTSIDE, outside_port)))) % 65535

    def test_a_wrong_checksum_stays_as_wrong(self):
        for protocol in PROTOCOLS:
            right = carried_checksum(sent(protocol, (HOST, 9)))
            moved = carried_checksum(sent(protocol, (OUTSIDE, 1024)))
            for off in (1, 1000, 40000):
                wrong = (moved + off) % 65535
                self.assert_moved(sent(protocol, (HOST, 9), checksum=(right + off) % 65535),
                                  sent(protocol, (OUTSIDE, 1024), steps=63, checksum=wrong))

    def test_udp_without_a_checksum(self):
        self.assert_moved(udp(checksum=0), udp(source=(OUTSIDE, 5000), steps=63, checksum=0))
        back = answered(UDP, (OUTSIDE, 5000), checksum=0)
        self.assertEqual(last(out(udp()), come_in(back)), [0] + answered(UDP, (HOST, 5000), steps=63, checksum=0))

    def test_tcp_and_echo_with_a_checksum_of_0(self):
        for protocol in (TCP, ECHO):
            difference = self.difference(protocol, 9, 1024)
            self.assertNotEqual(difference, 0)
            self.assert_moved(sent(protocol, (HOST, 9), checksum=0),
                              sent(protocol, (OUTSIDE, 1024), steps=63, checksum=65535 - difference))

    def test_one_that_would_come_out_as_0(self):
        for protocol, wanted in ((UDP, 65535), (TCP, 0), (ECHO, 0)):
            difference = self.difference(protocol, 9, 1024)
            self.assert_moved(sent(protocol, (HOST, 9), checksum=difference),
                              sent(protocol, (OUTSIDE, 1024), steps=63, checksum=wanted))

    def test_udp_coming_in_that_would_come_out_as_0(self):
        before = carried_checksum(answered(UDP, (OUTSIDE, 5000)))
        difference = (before - carried_checksum(answered(UDP, (HOST, 5000)))) % 65535
        told = last(out(udp()), come_in(answered(UDP, (OUTSIDE, 5000), checksum=difference)))
        self.assertEqual(told, [0] + answered(UDP, (HOST, 5000), steps=63, checksum=65535))

    def test_65535_with_words_that_stay_the_same(self):
        for protocol, wanted in ((UDP, 65535), (TCP, 0), (ECHO, 0)):
            self.assert_moved(sent(protocol, (OUTSIDE, 5000), checksum=65535),
                              sent(protocol, (OUTSIDE, 5000), steps=63, checksum=wanted))

    def test_65535_with_a_port_that_stays_the_same(self):
        # The address's words are 65535 before and 0 after, so that the port alone leaves something to be summed.
        for make, wanted in ((udp, 65535), (tcp, 0)):
            given = make(source=(4294967295, 5000), checksum=65535)
            self.assertEqual(ask(begin(0), out(given))[1], [0] + make(source=(0, 5000), checksum=wanted, steps=63))

    def test_other_checksums_with_words_that_stay_the_same(self):
        for protocol in PROTOCOLS:
            for checksum in (1, 255, 256, 32768, 65534):
                self.assert_moved(sent(protocol, (OUTSIDE, 5000), checksum=checksum),
                                  sent(protocol, (OUTSIDE, 5000), steps=63, checksum=checksum))

    def test_of_an_echo_the_number_alone(self):
        kept = echo_request(source=(HOST, 5000))
        self.assert_moved(kept, echo_request(source=(OUTSIDE, 5000), steps=63))
        self.assertEqual(carried_checksum(kept), carried_checksum(last(out(kept))[1:]))
        other = echo_request(source=(HOST, 9))
        told = last(out(other))
        self.assertEqual(carried_checksum(told[1:]), (carried_checksum(other) - (1024 - 9)) % 65535)

    def test_every_checksum_of_some(self):
        for protocol in PROTOCOLS:
            difference = self.difference(protocol, 9, 1024)
            for checksum in list(range(1, 65535, 4099)) + [65534]:
                wanted = (checksum - difference) % 65535
                if wanted == 0 and protocol == UDP:
                    wanted = 65535
                self.assert_moved(sent(protocol, (HOST, 9), checksum=checksum),
                                  sent(protocol, (OUTSIDE, 1024), steps=63, checksum=wanted))
