"""Promise 5: a packet that comes in goes to the very sender."""

import unittest

from tests.helper import ECHO, HOST, OTHER_HOST, OUTSIDE, TCP, UDP
from tests.helper import answered, ask, begin, come_in, count, find, last, out, sent

LIMITS = ((UDP, 300), (ECHO, 300), (TCP, 7200))


class ComeIn(unittest.TestCase):
    def test_goes_to_the_sender(self):
        for protocol, limit in LIMITS:
            for port, outside_port in ((5000, 5000), (0, 1024), (1023, 1024), (65535, 65535)):
                told = last(out(sent(protocol, (HOST, port))), come_in(answered(protocol, (OUTSIDE, outside_port))))
                self.assertEqual(told, [0] + answered(protocol, (HOST, port), steps=63))

    def test_goes_to_the_very_sender(self):
        for protocol, limit in LIMITS:
            rows = ask(begin(), out(sent(protocol, (HOST, 5000))), out(sent(protocol, (OTHER_HOST, 5000))),
                       come_in(answered(protocol, (OUTSIDE, 1024))), come_in(answered(protocol, (OUTSIDE, 5000))))
            self.assertEqual(rows[3], [0] + answered(protocol, (OTHER_HOST, 5000), steps=63))
            self.assertEqual(rows[4], [0] + answered(protocol, (HOST, 5000), steps=63))

    def test_goes_by_its_protocol(self):
        hosts = {UDP: HOST, TCP: HOST + 1, ECHO: HOST + 2}
        bound = [out(sent(protocol, (hosts[protocol], 5000))) for protocol in hosts]
        rows = ask(begin(), *bound, *[come_in(answered(protocol, (OUTSIDE, 5000))) for protocol in hosts])
        for protocol, row in zip(hosts, rows[4:]):
            self.assertEqual(row, [0] + answered(protocol, (hosts[protocol], 5000), steps=63))

    def test_comes_from_anybody(self):
        for source in (0, HOST, OUTSIDE, 4294967295):
            told = last(out(sent(ECHO, (HOST, 5000))), come_in(answered(ECHO, (OUTSIDE, 5000), source=source)))
            self.assertEqual(told, [0] + answered(ECHO, (HOST, 5000), source=source, steps=63))

    def test_is_a_use(self):
        for protocol, limit in LIMITS:
            back = come_in(answered(protocol, (OUTSIDE, 5000)), limit - 1)
            rows = ask(begin(), out(sent(protocol, (HOST, 5000))), back, count(2 * limit - 2), count(2 * limit - 1),
                       find(protocol, 5000, 2 * limit - 2), find(protocol, 5000, 2 * limit - 1))
            self.assertEqual(rows[3:], [[1], [0], [0, HOST, 5000], [-1]])

    def test_is_a_use_of_that_binding_alone(self):
        rows = ask(begin(), out(sent(UDP, (HOST, 5000))), out(sent(UDP, (OTHER_HOST, 6000))),
                   out(sent(ECHO, (HOST, 5000))), come_in(answered(UDP, (OUTSIDE, 5000)), 200), count(300),
                   find(UDP, 5000, 300), find(UDP, 6000, 300), find(ECHO, 5000, 300))
        self.assertEqual(rows[5:], [[1], [0, HOST, 5000], [-1], [-1]])

    def test_makes_no_binding(self):
        rows = ask(begin(), out(sent(UDP, (HOST, 5000))), come_in(answered(UDP, (OUTSIDE, 5000))), count())
        self.assertEqual(rows[3], [1])

    def test_on_after_the_time_went_round(self):
        rows = ask(begin(), out(sent(UDP, (HOST, 5000)), 4294967290), come_in(answered(UDP, (OUTSIDE, 5000)), 5),
                   count(304), count(305))
        self.assertEqual(rows[2], [0] + answered(UDP, (HOST, 5000), steps=63))
        self.assertEqual(rows[3:], [[1], [0]])
