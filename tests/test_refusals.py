"""Promise 3: what is refused, by which number, and that the packet stays as it is."""

import unittest

from oneaddress.house import House
from tests.helper import ECHO, HOST, OTHER_HOST, OUTSIDE, PEER, TCP, UDP
from tests.helper import answered, ask, begin, checksum_over, come_in, count, echo, echo_answer, echo_request
from tests.helper import find, last, out, packet_of, sent, split_word, tcp, udp

PROTOCOLS = (UDP, TCP, ECHO)
BACK = (OUTSIDE, 5000)


class Refusals(unittest.TestCase):
    def assert_out(self, packet, answer):
        told = last(out(list(packet)))
        self.assertEqual(told[0], answer)
        self.assert_stays(packet, told)

    def assert_in(self, packet, answer):
        """On a house where the sender at port 5000 has a binding of each protocol."""
        bound = [out(sent(protocol, (HOST, 5000))) for protocol in PROTOCOLS]
        told = last(*bound, come_in(list(packet)))
        self.assertEqual(told[0], answer)
        self.assert_stays(packet, told)

    def assert_stays(self, packet, told):
        self.assertEqual(len(told), 1 + len(packet))
        if told[0] != 0:
            self.assertEqual(told[1:], packet)

    def assert_both(self, answer, **head):
        for protocol in PROTOCOLS:
            self.assert_out(sent(protocol, (HOST, 5000), **head), answer)
            self.assert_in(answered(protocol, BACK, **head), answer)


class Whole(Refusals):
    def test_ordinary(self):
        self.assert_both(0)

    def test_empty(self):
        self.assert_out([], -1)
        self.assert_in([], -1)
        self.assertEqual(ask(begin(), out([]), come_in([])), [[0], [-1], [-1]])

    def test_fewer_than_twenty_bytes(self):
        for size in (1, 2, 10, 19):
            self.assert_out(udp()[:size], -1)
            self.assert_in(answered(UDP, BACK)[:size], -1)

    def test_nineteen_and_twenty_bytes(self):
        bare = packet_of(UDP, HOST, PEER, [])
        self.assert_out(bare, -2)
        self.assert_out(bare[:19], -1)
        bare = packet_of(UDP, PEER, OUTSIDE, [])
        self.assert_in(bare, -2)
        self.assert_in(bare[:19], -1)

    def test_nineteen_bytes_that_say_so(self):
        self.assert_out(packet_of(UDP, HOST, PEER, [], length=19)[:19], -1)

    def test_upper_half_that_is_not_four(self):
        for upper in (0, 1, 3, 5, 6, 12, 15):
            self.assert_both(-1, first=upper * 16 + 5)

    def test_heads_length_below_twenty(self):
        for words in range(5):
            # With an address of 0 behind, the sums over 16 and over 20 bytes are the same.
            self.assert_out(udp(target=(0, 53), first=0x40 + words), -1)
            self.assert_both(-1, first=0x40 + words)

    def test_heads_length_below_twenty_with_a_right_sum(self):
        short = udp(target=(0, 53), first=0x44)
        self.assertEqual(checksum_over(short[:16]), 0)
        self.assert_out(short, -1)

    def test_heads_length_above_twenty(self):
        for words in range(1, 11):
            self.assert_both(0, options=list(range(1, 4 * words + 1)))

    def test_heads_length_past_the_packet(self):
        for words in range(6, 16):
            self.assert_out(packet_of(UDP, HOST, PEER, [], first=0x40 + words), -1)

    def test_length_about_the_heads_length(self):
        for options in ((), (1, 1, 1, 1), (1,) * 40):
            head = 20 + len(options)
            self.assert_both(-1, options=options, length=head - 1)
            self.assert_both(-2, options=options, length=head)
            self.assert_both(-1, options=options, length=0)

    def test_length_about_len(self):
        for protocol in PROTOCOLS:
            size = len(sent(protocol, (HOST, 5000)))
            self.assert_out(sent(protocol, (HOST, 5000), length=size), 0)
            self.assert_out(sent(protocol, (HOST, 5000), length=size + 1), -1)
            self.assert_out(sent(protocol, (HOST, 5000), length=65535), -1)
            self.assert_in(answered(protocol, BACK, length=size), 0)
            self.assert_in(answered(protocol, BACK, length=size + 1), -1)

    def test_bytes_past_the_length(self):
        for past in ([0], [255] * 3, [9] * 40):
            self.assert_both(0, past=past)

    def test_heads_checksum_off_by_one(self):
        for off in (1, -1, 256, -256, 32768):
            self.assert_both(-1, off=off)
            self.assert_both(-1, off=off, options=(1, 2, 3, 4))

    def test_heads_checksum_is_over_the_whole_head(self):
        good = udp(options=(1, 2, 3, 4))
        for place in range(24):
            bad = list(good)
            bad[place] ^= 1
            if place not in (0, 2, 3):
                self.assert_out(bad, -1)

    def test_a_heads_checksum_of_65535_in_the_place_of_0(self):
        ident = checksum_over(udp(ident=0, head_checksum=0)[:20])
        for head_checksum in (0, 65535):
            self.assert_out(udp(ident=ident, head_checksum=head_checksum), 0)

    def test_more_than_65535_bytes(self):
        for size, answer in ((65535, 0), (65536, -1), (70000, -1)):
            packet = udp()
            packet = packet + [3] * (size - len(packet))
            before = list(packet)
            house = House()
            house.begin(OUTSIDE)
            self.assertEqual(house.out(packet, 0), answer)
            self.assertEqual(packet == before, answer != 0)


class Carried(Refusals):
    def test_bits_of_the_word_at_six(self):
        for bit in range(14):
            self.assert_both(-2, piece=1 << bit)
        self.assert_both(-2, piece=16383)
        self.assert_both(-2, piece=65535)
        for whole in (16384, 32768, 49152):
            self.assert_both(0, piece=whole)

    def test_other_protocols(self):
        for protocol in (0, 2, 5, 7, 16, 18, 58, 255):
            for carried in ([0] * 8, [8] + [0] * 39, udp()[20:], tcp()[20:]):
                self.assert_out(packet_of(protocol, HOST, PEER, carried), -2)
                self.assert_in(packet_of(protocol, PEER, OUTSIDE, carried), -2)

    def test_udps_length(self):
        for data in ([], [1, 2, 3], [6] * 300):
            behind = 8 + len(data)
            for length, answer in ((0, -2), (7, -2), (8, 0), (behind, 0), (behind + 1, -2), (65535, -2)):
                self.assert_out(udp(data=data, udp_length=length), answer)
                self.assert_in(answered(UDP, BACK, data=data, udp_length=length), answer)

    def test_udps_length_into_bytes_past_the_packet(self):
        self.assert_out(udp(data=[], udp_length=9, past=[1, 2, 3]), -2)
        self.assert_out(udp(data=[], udp_length=8, past=[1, 2, 3]), 0)

    def test_udp_with_fewer_than_eight_bytes(self):
        carried = udp(data=[])[20:]
        for size in (0, 1, 4, 6, 7):
            self.assert_out(packet_of(UDP, HOST, PEER, carried[:size]), -2)
            self.assert_out(packet_of(UDP, HOST, PEER, carried[:size], past=carried[size:]), -2)
        self.assert_out(packet_of(UDP, HOST, PEER, carried), 0)

    def test_udp_of_seven_bytes_whose_length_is_seven(self):
        self.assert_out(packet_of(UDP, HOST, PEER, udp(data=[], udp_length=7)[20:27]), -2)

    def test_tcp_with_nineteen_and_twenty_bytes(self):
        carried = tcp(data=[])[20:]
        back = tcp(source=(PEER, 80), target=BACK, data=[])[20:]
        self.assertEqual(len(carried), 20)
        for size in (0, 1, 8, 18, 19):
            self.assert_out(packet_of(TCP, HOST, PEER, carried[:size]), -2)
            self.assert_out(packet_of(TCP, HOST, PEER, carried[:size], past=carried[size:]), -2)
            self.assert_in(packet_of(TCP, PEER, OUTSIDE, back[:size]), -2)
        self.assert_out(packet_of(TCP, HOST, PEER, carried), 0)
        self.assert_in(packet_of(TCP, PEER, OUTSIDE, back), 0)

    def test_echo_with_seven_and_eight_bytes(self):
        carried = echo_request(data=[])[20:]
        back = echo_answer(data=[])[20:]
        for size in (0, 1, 2, 6, 7):
            self.assert_out(packet_of(ECHO, HOST, PEER, carried[:size]), -2)
            self.assert_out(packet_of(ECHO, HOST, PEER, carried[:size], past=carried[size:]), -2)
            self.assert_in(packet_of(ECHO, PEER, OUTSIDE, back[:size]), -2)
        self.assert_out(packet_of(ECHO, HOST, PEER, carried), 0)
        self.assert_in(packet_of(ECHO, PEER, OUTSIDE, back), 0)

    def test_echos_second_byte(self):
        for second in (1, 2, 128, 255):
            self.assert_out(echo_request(second=second), -2)
            self.assert_in(echo_answer(second=second), -2)

    def test_echos_kind(self):
        for kind in (0, 1, 3, 5, 7, 8, 9, 11, 13, 255):
            self.assert_out(echo(HOST, PEER, 5000, kind), 0 if kind == 8 else -2)
            self.assert_in(echo(PEER, OUTSIDE, 5000, kind), 0 if kind == 0 else -2)

    def test_with_longer_heads(self):
        options = (1,) * 12
        self.assert_out(packet_of(UDP, HOST, PEER, udp(data=[])[20:27], options=options), -2)
        self.assert_out(packet_of(TCP, HOST, PEER, tcp(data=[])[20:39], options=options), -2)
        self.assert_out(echo_request(second=1, options=options), -2)
        self.assert_out(udp(data=[], udp_length=9, options=options), -2)


class Steps(Refusals):
    def test_byte_at_eight(self):
        for steps, answer in ((0, -3), (1, -3), (2, 0), (3, 0), (255, 0)):
            self.assert_both(answer, steps=steps)


class Nobodys(Refusals):
    def test_for_another_address(self):
        for address in (0, HOST, PEER, OUTSIDE - 1, OUTSIDE + 1, OUTSIDE ^ 0x10000, OUTSIDE ^ 0x80000000):
            for protocol in PROTOCOLS:
                self.assert_in(answered(protocol, (address, 5000)), -5)

    def test_for_a_port_that_nobody_has(self):
        for port in (0, 53, 443, 1024, 4999, 5001, 65535):
            for protocol in PROTOCOLS:
                self.assert_in(answered(protocol, (OUTSIDE, port)), -5)

    def test_for_a_port_of_another_protocol(self):
        for bound in PROTOCOLS:
            for protocol in PROTOCOLS:
                told = last(out(sent(bound, (HOST, 5000))), come_in(answered(protocol, BACK)))
                self.assertEqual(told[0], 0 if protocol == bound else -5)

    def test_for_the_port_inside(self):
        told = last(out(udp(source=(HOST, 80))), come_in(answered(UDP, (OUTSIDE, 80))))
        self.assertEqual(told, [-5] + answered(UDP, (OUTSIDE, 80)))

    def test_without_any_binding(self):
        self.assertEqual(last(come_in(answered(UDP, BACK))), [-5] + answered(UDP, BACK))

    def test_the_senders_port_does_not_count(self):
        stray = udp(source=(PEER, 5000), target=(OUTSIDE, 5001))
        self.assert_in(stray, -5)

    def test_going_out_asks_nothing_of_whom_it_is_for(self):
        for address in (0, OUTSIDE, HOST, 4294967295):
            self.assert_out(udp(target=(address, 7)), 0)


class Order(Refusals):
    """Of packets that two refusals fit, what is first in the promise is answered."""

    def test_not_whole_is_first(self):
        self.assert_both(-1, off=1, piece=1)
        self.assert_both(-1, off=1, steps=1)
        self.assert_both(-1, off=1, piece=1, steps=0)
        self.assert_in(answered(UDP, (HOST, 5000), off=1), -1)
        self.assert_in(answered(UDP, (OUTSIDE, 4), off=1), -1)
        self.assert_in(packet_of(99, PEER, HOST, [0] * 8, off=1), -1)

    def test_what_it_carries_is_second(self):
        self.assert_both(-2, piece=1, steps=1)
        self.assert_both(-2, piece=8192, steps=0)
        self.assert_in(answered(UDP, (HOST, 5000), piece=1), -2)
        self.assert_in(answered(UDP, (OUTSIDE, 4), piece=1), -2)
        self.assert_in(echo(PEER, HOST, 4, 8, steps=1), -2)
        self.assert_out(echo_answer(steps=1), -2)
        self.assert_out(packet_of(99, HOST, PEER, [0] * 8, steps=0), -2)

    def test_steps_are_third(self):
        for steps in (0, 1):
            self.assert_in(answered(UDP, (HOST, 5000), steps=steps), -3)
            self.assert_in(answered(UDP, (OUTSIDE, 4), steps=steps), -3)

    def test_a_refused_packet_makes_no_binding(self):
        for refused in (udp(off=1), udp(piece=1), udp(steps=1), echo_request(second=1), []):
            self.assertEqual(last(out(refused), count()), [0])
        self.assertEqual(last(out(udp(steps=1)), find(UDP, 5000)), [-1])
        self.assertEqual(last(come_in(answered(UDP, BACK)), count()), [0])


class Room(unittest.TestCase):
    """256 bindings are more than one list of calls can make."""

    def filled(self, size, now=0):
        house = House()
        house.begin(OUTSIDE)
        for index in range(size):
            packet = sent(PROTOCOLS[index % 3], (HOST + index, 5000))
            self.assertEqual(house.out(packet, now), 0)
        return house

    def assert_no_room(self, house, packet, now=0):
        before = list(packet)
        self.assertEqual(house.out(packet, now), -4)
        self.assertEqual(packet, before)

    def test_the_256th_and_the_257th(self):
        for protocol in PROTOCOLS:
            house = self.filled(255)
            self.assertEqual(house.out(sent(protocol, (OTHER_HOST, 7)), 0), 0)
            self.assertEqual(house.count(0), 256)
            for other in PROTOCOLS:
                self.assert_no_room(house, sent(other, (OTHER_HOST, 8)))
            self.assertEqual(house.count(0), 256)

    def test_of_one_protocol_alone(self):
        house = House()
        house.begin(OUTSIDE)
        for index in range(256):
            packet = udp(source=(HOST, index))
            self.assertEqual(house.out(packet, 0), 0)
            self.assertEqual(packet, udp(source=(OUTSIDE, 1024 + index), steps=63))
        self.assert_no_room(house, udp(source=(HOST, 256)))
        self.assert_no_room(house, tcp(source=(HOST, 1)))
        self.assertEqual(house.find(UDP, 1279, 0), [0, HOST, 255])
        self.assertEqual(house.find(UDP, 1280, 0), [-1])

    def test_a_sender_with_a_binding(self):
        house = self.filled(256)
        for index in (0, 1, 2, 255):
            packet = sent(PROTOCOLS[index % 3], (HOST + index, 5000))
            self.assertEqual(house.out(packet, 0), 0)
        self.assertEqual(house.count(0), 256)

    def test_a_sender_with_a_binding_of_another_protocol(self):
        house = self.filled(256)
        self.assert_no_room(house, tcp(source=(HOST, 5000)))
        self.assert_no_room(house, udp(source=(HOST, 5001)))
        self.assert_no_room(house, udp(source=(HOST + 1, 5000)))

    def test_in_goes_on(self):
        house = self.filled(256)
        packet = answered(UDP, BACK)
        self.assertEqual(house.come_in(packet, 0), 0)
        self.assertEqual(packet, answered(UDP, (HOST, 5000), steps=63))

    def test_the_dead_make_room_first(self):
        house = self.filled(256)
        self.assert_no_room(house, udp(source=(OTHER_HOST, 7)), 299)
        self.assertEqual(house.out(udp(source=(OTHER_HOST, 7)), 300), 0)
        # 85 bindings of TCP, and the new one.
        self.assertEqual(house.count(300), 86)

    def test_the_other_refusals_are_first(self):
        house = self.filled(256)
        stranger = (OTHER_HOST, 7)
        for head, answer in (({"off": 1}, -1), ({"piece": 1}, -2), ({"steps": 1}, -3), ({"steps": 0}, -3)):
            packet = udp(source=stranger, **head)
            before = list(packet)
            self.assertEqual(house.out(packet, 0), answer)
            self.assertEqual(packet, before)
        self.assertEqual(house.out(echo(OTHER_HOST, PEER, 7, 0), 0), -2)

    def test_begin_makes_room(self):
        house = self.filled(256)
        house.begin(OUTSIDE)
        self.assertEqual(house.out(udp(), 0), 0)
        self.assertEqual(house.count(0), 1)

    def test_as_many_as_one_list_can_make(self):
        calls = [out(udp(source=(HOST, 2000 + index))) for index in range(98)]
        rows = ask(begin(), *calls, count())
        self.assertEqual(rows[-1], [98])
        self.assertEqual([row[0] for row in rows[:-1]], [0] * 99)
        self.assertEqual([row[21:23] for row in rows[1:-1]], [split_word(2000 + index) for index in range(98)])
