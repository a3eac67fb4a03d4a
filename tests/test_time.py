"""Promise 2: when a binding is dead, and who forgets it."""

import unittest

from tests.helper import ECHO, HOST, OTHER_HOST, OUTSIDE, TCP, UDP
from tests.helper import answered, ask, begin, come_in, count, echo_answer, find, last, out, sent, udp

LIMITS = ((UDP, 300), (ECHO, 300), (TCP, 7200))
ROUND = 4294967296
STRANGER = (OTHER_HOST, 6000)


class Dead(unittest.TestCase):
    def test_one_second_short_it_lives(self):
        for protocol, limit in LIMITS:
            for start in (0, 1000, ROUND - 1, ROUND - 100):
                now = (start + limit - 1) % ROUND
                bound = out(sent(protocol, (HOST, 5000)), start)
                self.assertEqual(last(bound, count(now)), [1])
                self.assertEqual(last(bound, find(protocol, 5000, now)), [0, HOST, 5000])
                self.assertEqual(last(bound, come_in(answered(protocol, (OUTSIDE, 5000)), now))[0], 0)

    def test_after_the_last_second_it_is_dead(self):
        for protocol, limit in LIMITS:
            for start in (0, 1000, ROUND - 1, ROUND - 100):
                now = (start + limit) % ROUND
                bound = out(sent(protocol, (HOST, 5000)), start)
                self.assertEqual(last(bound, count(now)), [0])
                self.assertEqual(last(bound, find(protocol, 5000, now)), [-1])
                self.assertEqual(last(bound, come_in(answered(protocol, (OUTSIDE, 5000)), now))[0], -5)

    def test_a_time_before_the_last_use_is_nearly_a_round_after_it(self):
        for protocol, limit in LIMITS:
            bound = out(sent(protocol, (HOST, 5000)), 50)
            self.assertEqual(last(bound, count(49)), [0])
            self.assertEqual(last(bound, count(50)), [1])

    def test_out_by_the_same_sender_is_a_use(self):
        for protocol, limit in LIMITS:
            again = sent(protocol, (HOST, 5000))
            rows = ask(begin(), out(again, 0), out(again, limit - 1), count(2 * limit - 2), count(2 * limit - 1))
            self.assertEqual(rows[3:], [[1], [0]])

    def test_a_refused_packet_is_no_use(self):
        own, back = udp(), answered(UDP, (OUTSIDE, 5000))
        tired = out(udp(steps=1), 200)
        tired_back = come_in(answered(UDP, (OUTSIDE, 5000), steps=1), 200)
        astray = come_in(answered(UDP, (OUTSIDE + 1, 5000)), 200)
        for refused in (tired, tired_back, astray):
            self.assertEqual(ask(begin(), out(own), refused, count(299), count(300))[3:], [[1], [0]])
        self.assertEqual(ask(begin(), out(own), come_in(back, 200), count(499), count(500))[3:], [[1], [0]])


class Forgotten(unittest.TestCase):
    """A binding that is dead at one time but not at an earlier one tells whether it was forgotten."""

    def assert_forgotten(self, protocol, call, answer):
        rows = ask(begin(), out(sent(protocol, (HOST, 5000)), 1000), call, count(1001), find(protocol, 5000, 1001))
        self.assertEqual(rows[2][0], answer)
        self.assertEqual(rows[3:], [[0], [-1]])

    def test_by_out_at_each_refusal(self):
        for protocol, limit in LIMITS:
            now = 1000 + limit
            self.assert_forgotten(protocol, out([], now), -1)
            self.assert_forgotten(protocol, out(sent(protocol, STRANGER, off=1), now), -1)
            self.assert_forgotten(protocol, out(sent(protocol, STRANGER, piece=1), now), -2)
            self.assert_forgotten(protocol, out(echo_answer(), now), -2)
            self.assert_forgotten(protocol, out(sent(protocol, STRANGER, steps=1), now), -3)

    def test_by_in_at_each_refusal(self):
        for protocol, limit in LIMITS:
            now = 1000 + limit
            back = (OUTSIDE, 5000)
            self.assert_forgotten(protocol, come_in([], now), -1)
            self.assert_forgotten(protocol, come_in(answered(protocol, back, off=1), now), -1)
            self.assert_forgotten(protocol, come_in(answered(protocol, back, piece=1), now), -2)
            self.assert_forgotten(protocol, come_in(answered(protocol, back, steps=1), now), -3)
            self.assert_forgotten(protocol, come_in(answered(protocol, (HOST, 5000)), now), -5)
            self.assert_forgotten(protocol, come_in(answered(protocol, back), now), -5)

    def test_by_out_that_goes(self):
        rows = ask(begin(), out(udp(source=(HOST, 5000))), out(udp(source=STRANGER), 300), count(300),
                   find(UDP, 5000, 299), find(UDP, 6000, 300))
        self.assertEqual(rows[3:], [[1], [-1], [0, OTHER_HOST, 6000]])

    def test_by_in_that_goes(self):
        rows = ask(begin(), out(udp(source=(HOST, 5000)), 0), out(udp(source=STRANGER), 100),
                   come_in(answered(UDP, (OUTSIDE, 6000)), 300), find(UDP, 5000, 299), find(UDP, 6000, 300))
        self.assertEqual(rows[3][0], 0)
        self.assertEqual(rows[4:], [[-1], [0, OTHER_HOST, 6000]])

    def test_only_the_dead_ones(self):
        rows = ask(begin(), out(sent(TCP, (HOST, 5000))), out(sent(UDP, (HOST, 5000))), out(sent(ECHO, (HOST, 5000))),
                   out(udp(source=STRANGER), 1), out([], 300), count(299), find(TCP, 5000, 299),
                   find(UDP, 5000, 299), find(ECHO, 5000, 299), find(UDP, 6000, 299))
        self.assertEqual(rows[6:], [[2], [0, HOST, 5000], [-1], [-1], [0, OTHER_HOST, 6000]])

    def test_a_dead_port_is_free_at_once(self):
        rows = ask(begin(), out(udp(source=(HOST, 5000))), out(udp(source=(OTHER_HOST, 5000)), 300))
        self.assertEqual(rows[2], [0] + udp(source=(OUTSIDE, 5000), steps=63))

    def test_a_dead_senders_port_is_chosen_anew(self):
        late = udp(source=(OTHER_HOST, 5000))
        rows = ask(begin(), out(udp(source=(HOST, 5000))), out(late), out(late, 300))
        self.assertEqual(rows[2], [0] + udp(source=(OUTSIDE, 1024), steps=63))
        self.assertEqual(rows[3], [0] + udp(source=(OUTSIDE, 5000), steps=63))

    def test_count_and_find_forget_nothing(self):
        for protocol, limit in LIMITS:
            rows = ask(begin(), out(sent(protocol, (HOST, 5000))), count(limit), find(protocol, 5000, limit),
                       count(limit - 1), find(protocol, 5000, limit - 1))
            self.assertEqual(rows[2:], [[0], [-1], [1], [0, HOST, 5000]])
