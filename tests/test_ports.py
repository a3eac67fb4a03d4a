"""Promise 4: which port outside a sender gets."""

import unittest

from tests.helper import ECHO, HOST, OTHER_HOST, OUTSIDE, TCP, UDP
from tests.helper import ask, begin, count, find, out, sent, udp

PROTOCOLS = (UDP, TCP, ECHO)


class Ports(unittest.TestCase):
    def assert_ports(self, protocol, senders, ports):
        """Senders who send one behind another at time 0 get these ports outside."""
        calls = [out(sent(protocol, sender)) for sender in senders]
        told = ask(begin(), *calls, *[find(protocol, port) for port in ports])[1:]
        for index, port in enumerate(ports):
            self.assertEqual(told[index], [0] + sent(protocol, (OUTSIDE, port), steps=63))
            self.assertEqual(told[len(senders) + index], [0] + list(senders[index]))

    def test_its_own(self):
        for protocol in PROTOCOLS:
            for port in (1024, 1025, 5000, 65535):
                self.assert_ports(protocol, [(HOST, port)], [port])

    def test_below_1024(self):
        for protocol in PROTOCOLS:
            for port in (0, 1, 53, 1023):
                self.assert_ports(protocol, [(HOST, port)], [1024])

    def test_one_that_another_has(self):
        for protocol in PROTOCOLS:
            self.assert_ports(protocol, [(HOST, 5000), (OTHER_HOST, 5000)], [5000, 1024])

    def test_the_least_that_none_has(self):
        senders = [(HOST, 1024), (HOST, 1025), (HOST, 1027), (HOST, 80), (HOST, 81), (OTHER_HOST, 1027)]
        for protocol in PROTOCOLS:
            self.assert_ports(protocol, senders, [1024, 1025, 1027, 1026, 1028, 1029])

    def test_its_own_was_given_to_another(self):
        for protocol in PROTOCOLS:
            self.assert_ports(protocol, [(HOST, 80), (HOST, 1024), (HOST, 1025)], [1024, 1025, 1026])

    def test_the_same_port_under_other_protocols(self):
        for first in PROTOCOLS:
            for second in PROTOCOLS:
                rows = ask(begin(), out(sent(first, (HOST, 5000))), out(sent(second, (OTHER_HOST, 5000))))
                port = 1024 if first == second else 5000
                self.assertEqual(rows[2], [0] + sent(second, (OUTSIDE, port), steps=63))

    def test_the_least_is_reckoned_for_each_protocol(self):
        rows = ask(begin(), *[out(sent(protocol, (HOST, 7))) for protocol in PROTOCOLS])
        for protocol, row in zip(PROTOCOLS, rows[1:]):
            self.assertEqual(row, [0] + sent(protocol, (OUTSIDE, 1024), steps=63))

    def test_a_sender_keeps_its_port(self):
        for protocol in PROTOCOLS:
            for port, outside_port in ((5000, 5000), (80, 1024)):
                again = out(sent(protocol, (HOST, port)))
                rows = ask(begin(), again, out(sent(protocol, (HOST, 9))), again, again, count())
                for row in (rows[1], rows[3], rows[4]):
                    self.assertEqual(row, [0] + sent(protocol, (OUTSIDE, outside_port), steps=63))
                self.assertEqual(rows[5], [2])

    def test_a_sender_keeps_a_port_that_is_not_its_own(self):
        second = out(udp(source=(OTHER_HOST, 5000)), 200)
        rows = ask(begin(), out(udp(source=(HOST, 5000)), 0), second, out([], 300), second)
        self.assertEqual(rows[4], [0] + udp(source=(OUTSIDE, 1024), steps=63))

    def test_a_sender_is_its_address_and_its_port(self):
        senders = [(HOST, 5000), (HOST, 5001), (HOST + 1, 5001), (HOST ^ 0x80000000, 5001)]
        self.assert_ports(UDP, senders, [5000, 5001, 1024, 1025])

    def test_whom_it_is_for_does_not_count(self):
        rows = ask(begin(), out(udp(target=(1, 2))), out(udp(target=(3, 4))), count())
        self.assertEqual(rows[1:3], [[0] + udp(source=(OUTSIDE, 5000), target=target, steps=63)
                                     for target in ((1, 2), (3, 4))])
        self.assertEqual(rows[3], [1])

    def test_the_least_after_one_was_forgotten(self):
        times = ((1, 0), (2, 0), (3, 0), (1, 100), (3, 100), (4, 300), (5, 300))
        rows = ask(begin(), *[out(udp(source=(HOST, port)), now) for port, now in times], find(UDP, 1025, 300))
        ports = [row[21] * 256 + row[22] for row in rows[1:-1]]
        self.assertEqual(ports, [1024, 1025, 1026, 1024, 1026, 1025, 1027])
        self.assertEqual(rows[-1], [0, HOST, 4])

    def test_a_sender_with_the_address_outside(self):
        rows = ask(begin(), out(udp(source=(OUTSIDE, 5000))), find(UDP, 5000))
        self.assertEqual(rows[1:], [[0] + udp(source=(OUTSIDE, 5000), steps=63), [0, OUTSIDE, 5000]])
