"""Promise 1: begin."""

import unittest

from tests.helper import HOST, OUTSIDE, UDP
from tests.helper import answered, ask, begin, come_in, count, find, last, out, udp

ANOTHER = 0x01020304


class Begin(unittest.TestCase):
    def test_answers_nought(self):
        for outside in (0, 1, OUTSIDE, 4294967295):
            self.assertEqual(ask(begin(outside)), [[0]])

    def test_there_are_no_bindings(self):
        self.assertEqual(ask(begin(), count(), find(UDP, 5000), find(0, 0)), [[0], [0], [-1], [-1]])

    def test_again_leaves_no_bindings(self):
        rows = ask(begin(), out(udp()), count(), begin(), count(), find(UDP, 5000))
        self.assertEqual(rows[2:], [[1], [0], [0], [-1]])

    def test_again_frees_the_ports(self):
        first, second = udp(source=(HOST, 5000)), udp(source=(HOST + 1, 5000))
        self.assertEqual(last(out(first), begin(), out(second)), [0] + udp(source=(OUTSIDE, 5000), steps=63))

    def test_the_address_outside_is_the_senders(self):
        for outside in (0, 1, ANOTHER, 0x80000000, 4294967295):
            self.assertEqual(ask(begin(outside), out(udp()))[1], [0] + udp(source=(outside, 5000), steps=63))

    def test_again_tells_another_address(self):
        rows = ask(begin(), out(udp()), begin(ANOTHER), out(udp()),
                   come_in(answered(UDP, (OUTSIDE, 5000))), come_in(answered(UDP, (ANOTHER, 5000))))
        self.assertEqual(rows[1], [0] + udp(source=(OUTSIDE, 5000), steps=63))
        self.assertEqual(rows[3], [0] + udp(source=(ANOTHER, 5000), steps=63))
        self.assertEqual(rows[4], [-5] + answered(UDP, (OUTSIDE, 5000)))
        self.assertEqual(rows[5], [0] + answered(UDP, (HOST, 5000), steps=63))

    def test_again_with_the_same_address(self):
        self.assertEqual(last(out(udp()), begin(), come_in(answered(UDP, (OUTSIDE, 5000)))),
                         [-5] + answered(UDP, (OUTSIDE, 5000)))
