"""Promise 7: count and find."""

import unittest

from tests.helper import ECHO, HOST, OTHER_HOST, TCP, UDP
from tests.helper import ask, begin, count, find, last, out, sent

PROTOCOLS = (UDP, TCP, ECHO)


class Count(unittest.TestCase):
    def test_none(self):
        for now in (0, 1, 4294967295):
            self.assertEqual(last(count(now)), [0])

    def test_over_all_protocols(self):
        calls = [out(sent(protocol, (host, 5000))) for protocol in PROTOCOLS for host in (HOST, OTHER_HOST)]
        for size in range(7):
            self.assertEqual(last(*calls[:size], count()), [size])

    def test_living_and_dead(self):
        bound = [out(sent(UDP, (HOST, 5000)), 0), out(sent(ECHO, (HOST, 5000)), 100), out(sent(TCP, (HOST, 5000)), 200),
                 out(sent(UDP, (OTHER_HOST, 5000)), 250)]
        times = (250, 299, 300, 399, 400, 549, 550, 7399, 7400)
        rows = ask(begin(), *bound, *[count(now) for now in times])
        self.assertEqual(rows[5:], [[4], [4], [3], [3], [2], [2], [1], [1], [0]])


class Find(unittest.TestCase):
    def test_of_each_protocol(self):
        for protocol in PROTOCOLS:
            rows = ask(begin(), out(sent(protocol, (HOST, 80))), out(sent(protocol, (4294967295, 65535))),
                       out(sent(protocol, (0, 0))), find(protocol, 1024), find(protocol, 65535), find(protocol, 1025))
            self.assertEqual(rows[4:], [[0, HOST, 80], [0, 4294967295, 65535], [0, 0, 0]])

    def test_of_another_protocol_of_the_three(self):
        for bound in PROTOCOLS:
            for protocol in PROTOCOLS:
                told = last(out(sent(bound, (HOST, 5000))), find(protocol, 5000))
                self.assertEqual(told, [0, HOST, 5000] if bound == protocol else [-1])

    def test_of_a_protocol_that_is_none_of_the_three(self):
        bound = [out(sent(protocol, (HOST, 5000))) for protocol in PROTOCOLS]
        strange = (0, 2, 5, 7, 16, 18, 255, 256 + UDP, 65536 + TCP, -1, -ECHO, -TCP, -UDP, UDP - 256,
                   -2147483648, 2147483647)
        rows = ask(begin(), *bound, *[find(protocol, 5000) for protocol in strange])
        self.assertEqual(rows[4:], [[-1]] * len(strange))

    def test_of_a_port_that_nobody_has(self):
        bound = [out(sent(protocol, (HOST, 5000))) for protocol in PROTOCOLS]
        ports = (0, 1024, 4999, 5001, 65535, 65536 + 5000, 4294967295)
        calls = [find(protocol, port) for protocol in PROTOCOLS for port in ports]
        self.assertEqual(ask(begin(), *bound, *calls)[4:], [[-1]] * len(calls))

    def test_by_the_port_outside_not_the_port_inside(self):
        rows = ask(begin(), out(sent(UDP, (HOST, 80))), find(UDP, 80), find(UDP, 1024))
        self.assertEqual(rows[2:], [[-1], [0, HOST, 80]])

    def test_living_and_dead(self):
        rows = ask(begin(), out(sent(UDP, (HOST, 5000)), 0), out(sent(UDP, (OTHER_HOST, 5000)), 100),
                   find(UDP, 5000, 299), find(UDP, 5000, 300), find(UDP, 1024, 300), find(UDP, 1024, 400))
        self.assertEqual(rows[3:], [[0, HOST, 5000], [-1], [0, OTHER_HOST, 5000], [-1]])

    def test_find_and_count_are_no_use(self):
        rows = ask(begin(), out(sent(UDP, (HOST, 5000))), find(UDP, 5000, 200), count(200), count(300))
        self.assertEqual(rows[2:], [[0, HOST, 5000], [1], [0]])
