"""The interface: one list in, one list out; nothing changed, kept, printed, read or imported."""

import builtins
import contextlib
import inspect
import io
import sys
import unittest
from unittest import mock

import cladebook.trees
from cladebook.trees import answers
from tests.helper import (TOP, clades, cut, differ, drop, node, read, run, sets, shows, text, told_text, under)


def joined(*calls):
    return [number for call in calls for number in call]


def every_call():
    return joined(
        read(0, "((1,2),3);"), read(1, "(3,3);"), sets(1, 14, [12, 0]), sets(2, 7, [3, 6]), drop(9), text(0),
        clades(1), node(0, 6), under(0, 6, 1), differ(0, 1), shows(0, 1), text(1), drop(0), text(0), node(1, 0),
        text(16), read(0, "(" * 63 + "0" + "".join(f",{n})" for n in range(1, 64)) + ";"), text(0),
    )


class Untouched(list):
    """A list that can't be changed, not for a while either."""

    def refuse(self, *values, **named):
        raise AssertionError("what is handed in is changed")

    __setitem__ = __delitem__ = __iadd__ = __imul__ = refuse
    append = extend = insert = pop = remove = clear = sort = reverse = refuse


class Interface(unittest.TestCase):
    def test_name_and_argument(self):
        self.assertEqual(list(inspect.signature(cladebook.trees.answers).parameters), ["calls"])
        self.assertEqual(answers(calls=[4, 0]), [1, -2])

    def test_counts_stand_ahead(self):
        calls = joined(read(0, "(1,2);"), text(0), clades(0), node(0, 2), sets(0, 7, [3, 6]), read(0, "(1"),
                       text(16))
        self.assertEqual(answers(calls), [1, 1,
                                          7, 6, 40, 49, 44, 50, 41, 59,
                                          3, 1, 6, 6,
                                          3, 0, 2, 1,
                                          3, 0, 0, 1,
                                          2, -6, 2,
                                          1, -1])

    def test_whole_numbers_and_a_list(self):
        told = answers(every_call())
        self.assertIs(type(told), list)
        self.assertEqual([number for number in told if type(number) is not int], [])

    def test_what_is_handed_in_is_not_changed(self):
        calls = every_call()
        before = list(calls)
        answers(calls)
        self.assertEqual(calls, before)
        self.assertEqual(answers(Untouched(calls)), answers(calls))

    def test_what_is_given_back_is_not_kept(self):
        calls = every_call()
        first = answers(calls)
        copy = list(first)
        first.clear()
        self.assertEqual(answers(calls), copy)

    def test_the_same_list_twice(self):
        calls = every_call()
        self.assertEqual(answers(calls), answers(calls))

    def test_a_book_is_new_each_time(self):
        answers(read(0, "(1,2);"))
        self.assertEqual(answers(text(0)), [1, -2])

    def test_100_calls(self):
        told = run(*[read(n % 16, f"({n % 7},{n % 11 + 7});") for n in range(50)],
                   *[text(n % 16) for n in range(34, 50)],
                   *[differ(n % 16, n % 15) for n in range(34)])
        self.assertEqual(len(told), 100)
        self.assertEqual(told[:50], [[1]] * 50)
        self.assertEqual(told[50:66], [told_text(f"({n % 7},{n % 11 + 7});") for n in range(34, 50)])

    def test_100_calls_of_the_longest_text(self):
        chain = [2 ** n - 1 for n in range(65)]
        told = run(sets(0, TOP, chain), *[text(0)] * 99)
        self.assertEqual(len(told), 100)
        self.assertEqual(told[1:], [told[1]] * 99)
        self.assertEqual(told[1][0], 308)

    def test_2700_numbers(self):
        row = [6] * 256
        calls = joined(*[sets(n, 14, row) for n in range(10)], read(10, "(1,2);" + " " * 88))
        self.assertEqual(len(calls), 2697)
        self.assertEqual(cut(answers(calls)), [[1]] * 10 + [[-6, 6]])
        calls = joined(read(0, "(" * 2600), read(0, "1;"), text(0))
        self.assertEqual(cut(answers(calls)), [[-6, 63], [0], told_text("1;")])

    def test_rows_that_look_like_calls(self):
        self.assertEqual(run([2, 0, 7, 3, 1, 4, 6], text(0)), [[1], told_text("(0,(1,2));")])
        self.assertEqual(run([1, 0, 3, 4, 0, 5], text(0)), [[-6, 0], [-2]])
        self.assertEqual(run([1, 0, 0], [2, 0, 7, 0], text(0)), [[-6, 0], [1], told_text("(0,1,2);")])

    def test_prints_reads_and_imports_nothing(self):
        calls = every_call()
        out = io.StringIO()
        refuse = mock.Mock(side_effect=AssertionError("not asked for"))
        with contextlib.redirect_stdout(out), contextlib.redirect_stderr(out), \
                mock.patch.object(builtins, "__import__", refuse), mock.patch.object(builtins, "open", refuse), \
                mock.patch.object(builtins, "input", refuse):
            answers(calls)
        self.assertEqual(out.getvalue(), "")

    def test_nesting_needs_no_deep_recursion(self):
        calls = every_call() + read(1, "(" * 2000)
        expected = answers(calls)
        depth = len(inspect.stack())
        limit = sys.getrecursionlimit()
        sys.setrecursionlimit(depth + 25)
        try:
            got = answers(calls)
        finally:
            sys.setrecursionlimit(limit)
        self.assertEqual(got, expected)


if __name__ == "__main__":
    unittest.main()
