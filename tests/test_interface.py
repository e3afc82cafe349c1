"""The interface: how calls and answers stand in their lists, and what the call leaves alone."""

import builtins
import contextlib
import io
import sys
import threading
import unittest
from unittest import mock

from stillwon.desk import answers
from tests.helper import SMALL, ask, best, binary_tale, counter_tale, look, read, state, stuck
from tests.test_states import CAVE


class Frozen(list):
    """A list that is not to be changed, not for a while either."""

    def refuse(self, *given, **named):
        raise AssertionError("the list handed in was changed")

    append = extend = insert = pop = remove = clear = sort = reverse = refuse
    __setitem__ = __delitem__ = __iadd__ = __imul__ = refuse


class Form(unittest.TestCase):
    def test_counts_stand_before_the_answers(self):
        calls = read(CAVE) + look() + best(0, 0) + best(4, 0) + best(1, 1) + best(9, 9) + stuck(0) + stuck(2)
        due = [1, 0, 5, 0, 8, 1, 1, 2, 2, 3, 3, 1, 0, 1, -1, 1, -2, 25, 0] + state(1, 1) + [1, -2]
        self.assertEqual(answers(calls), due)

    def test_a_read_alone(self):
        self.assertEqual(answers(read(SMALL)), [1, 0])
        self.assertEqual(answers(read("")), [1, -71])
        self.assertEqual(answers(read([32] * 24577)), [1, -22])
        self.assertEqual(answers(read(binary_tale(17))), [1, -28])

    def test_plain_lists_of_plain_numbers(self):
        told = answers(read(CAVE) + look() + best(0, 0) + stuck(0) + stuck(9) + read(SMALL) + look())
        self.assertIs(type(told), list)
        self.assertEqual({type(number) for number in told}, {int})

    def test_4000_calls(self):
        told = ask(*([read(CAVE)] + [look(), stuck(1), stuck(4294967295)] * 1333))
        self.assertEqual(told, [[0]] + [[0, 8, 1, 1, 2], [0] + state(0, 1), [-2]] * 1333)

    def test_4000_reads(self):
        self.assertEqual(ask(*[read("x")] * 4000), [[-71]] * 4000)

    def test_30000_numbers(self):
        calls = [read(CAVE)] + [best(0, 0)] * 1000
        rest = 30000 - sum(len(call) for call in calls)
        calls.append(read(" " * (rest - 2)))
        self.assertEqual(sum(len(call) for call in calls), 30000)
        self.assertEqual(ask(*calls), [[0]] + [[3, 3]] * 1000 + [[-71]])

    def test_longest_row(self):
        self.assertEqual(ask(read(SMALL), read([255] * 29000), look()), [[0], [-22], [1, 3, 1, 0, 0]])


class LeftAlone(unittest.TestCase):
    calls = read(CAVE) + look() + best(0, 0) + best(1, 1) + stuck(0) + read("") + read(SMALL) + look() + best(0, 1)

    def test_what_is_handed_in_is_not_changed(self):
        handed = list(self.calls)
        answers(handed)
        self.assertEqual(handed, self.calls)

    def test_not_for_a_while_either(self):
        self.assertEqual(answers(Frozen(self.calls)), answers(self.calls))

    def test_what_is_given_back_is_its_own(self):
        first = answers(self.calls)
        kept = list(first)
        first.clear()
        self.assertEqual(answers(self.calls), kept)

    def test_nothing_is_kept(self):
        due = answers(self.calls)
        for other in (read(SMALL) + look(), read(""), read(binary_tale(17)), self.calls):
            answers(other)
            self.assertEqual(answers(self.calls), due)

    def test_it_prints_reads_and_imports_nothing(self):
        def refuse(*given, **named):
            raise AssertionError("nothing is to be read or imported")

        due = answers(self.calls)
        out, err = io.StringIO(), io.StringIO()
        with contextlib.redirect_stdout(out), contextlib.redirect_stderr(err), \
                mock.patch.object(builtins, "open", refuse), mock.patch.object(builtins, "input", refuse), \
                mock.patch.object(builtins, "__import__", refuse):
            told = answers(self.calls)
        self.assertEqual(told, due)
        self.assertEqual(out.getvalue() + err.getvalue(), "")


class ByLoops(unittest.TestCase):
    def shallow(self, calls):
        """What is answered where few calls may stand within one another."""
        told = []
        usual = sys.getrecursionlimit()

        def run():
            sys.setrecursionlimit(60)
            try:
                told.append(answers(calls))
            finally:
                sys.setrecursionlimit(usual)

        thread = threading.Thread(target=run)
        thread.start()
        thread.join()
        return told

    def test_long_texts(self):
        row = SMALL + 'show "' + "~" * 255 + '" if key is hand and key not table and door is shut ;'
        for text in (row.ljust(24576), SMALL + "a" * 24000, SMALL + '"' * 24001, SMALL + ";" * 24000):
            self.assertEqual(len(self.shallow(read(text))), 1)

    def test_long_ways(self):
        told = self.shallow(read(counter_tale(False)) + best(0, 0, 0, 0))
        self.assertEqual(told, [[1, 0, 2, 65535, 0]])

    def test_many_calls(self):
        self.assertEqual(self.shallow(read("") * 4000), [[1, -71] * 4000])
