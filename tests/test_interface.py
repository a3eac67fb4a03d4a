"""The interface: one list in, one list out, and nothing besides."""

import builtins
import contextlib
import inspect
import io
import unittest
from unittest import mock

from oneaddress.house import answers
from tests.helper import ECHO, HOST, OUTSIDE, TCP, UDP
from tests.helper import answered, ask, begin, come_in, count, find, last, out, sent, udp

PROTOCOLS = (UDP, TCP, ECHO)


def mixed_calls():
    """A hundred calls of all sorts in one list."""
    calls = begin()
    for index in range(33):
        protocol = PROTOCOLS[index % 3]
        calls = calls + out(sent(protocol, (HOST, 1000 + index)), index)
        calls = calls + come_in(answered(protocol, (OUTSIDE, 1024)), index)
        calls = calls + (count(index) if index % 2 else find(protocol, 1000 + index, index))
    return calls


class Unchanging(list):
    """A list that can't be changed."""

    def refuse(self, *rest):
        raise AssertionError("what was handed in was changed")

    __setitem__ = __delitem__ = __iadd__ = __imul__ = refuse
    append = extend = insert = pop = remove = clear = sort = reverse = refuse


class Interface(unittest.TestCase):
    def test_its_arguments(self):
        self.assertEqual(list(inspect.signature(answers).parameters), ["calls"])

    def test_how_answers_stand_in_the_list(self):
        packet = udp()
        calls = begin() + out(packet, 5) + out([1, 2], 5) + count(5) + find(UDP, 5000, 5) + find(UDP, 1, 5)
        calls = calls + come_in([], 5)
        size = 1 + len(packet)
        wanted = [1, 0] + [size, 0] + udp(source=(OUTSIDE, 5000), steps=63) + [3, -1, 1, 2] + [1, 1]
        wanted = wanted + [3, 0, HOST, 5000] + [1, -1] + [1, -1]
        self.assertEqual(answers(calls), wanted)

    def test_one_call(self):
        self.assertEqual(answers([0, OUTSIDE]), [1, 0])

    def test_a_hundred_calls(self):
        told = answers(mixed_calls())
        sizes = 0
        start = 0
        while start < len(told):
            sizes += 1
            start += 1 + told[start]
        self.assertEqual((sizes, start), (100, len(told)))

    def test_a_hundred_begins(self):
        self.assertEqual(answers([0, 7] * 100), [1, 0] * 100)

    def test_bytes_that_look_like_calls(self):
        self.assertEqual(ask(begin(), out([0, 0, 0, 3, 0]), come_in([4, 4, 4, 4]), count()),
                         [[0], [-1, 0, 0, 0, 3, 0], [-1, 4, 4, 4, 4], [0]])

    def test_what_is_handed_in_stays(self):
        calls = mixed_calls()
        before = list(calls)
        answers(calls)
        self.assertEqual(calls, before)

    def test_what_is_handed_in_is_not_changed_for_a_while_either(self):
        self.assertEqual(answers(Unchanging(mixed_calls())), answers(mixed_calls()))

    def test_nothing_is_kept(self):
        calls = mixed_calls()
        first = answers(calls)
        answers(begin(1) + out(udp()))
        self.assertEqual(answers(calls), first)
        self.assertEqual(answers(begin() + count() + find(UDP, 5000)), [1, 0, 1, 0, 1, -1])

    def test_what_is_given_back_is_new(self):
        first = answers(mixed_calls())
        kept = list(first)
        first.clear()
        self.assertEqual(answers(mixed_calls()), kept)

    def test_whole_numbers_in_a_list(self):
        told = answers(mixed_calls())
        self.assertIs(type(told), list)
        self.assertEqual({type(number) for number in told}, {int})

    def test_prints_reads_and_imports_nothing(self):
        calls = mixed_calls()
        refuse = mock.Mock(side_effect=AssertionError("not asked for"))
        printed = io.StringIO()
        with contextlib.redirect_stdout(printed), contextlib.redirect_stderr(printed):
            with mock.patch.object(builtins, "open", refuse), mock.patch.object(builtins, "__import__", refuse):
                with mock.patch.object(builtins, "input", refuse):
                    answers(calls)
        self.assertEqual(printed.getvalue(), "")

    def test_a_packet_of_thousands_of_bytes(self):
        for protocol in PROTOCOLS:
            data = [index * 7 % 256 for index in range(28900)]
            wanted = [0] + sent(protocol, (OUTSIDE, 5000), data=data, steps=63)
            self.assertEqual(last(out(sent(protocol, (HOST, 5000), data=data))), wanted)

    def test_the_longest_packet(self):
        packet = udp(data=[1] * (29000 - 28))
        self.assertEqual(len(packet), 29000)
        wanted = [0] + udp(source=(OUTSIDE, 5000), data=[1] * (29000 - 28), steps=63)
        self.assertEqual(last(out(packet)), wanted)

    def test_a_long_packet_that_is_not_whole(self):
        packet = [255] * 29000
        self.assertEqual(last(come_in(packet)), [-1] + packet)
