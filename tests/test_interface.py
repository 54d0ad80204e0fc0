"""The interface: one list in, one list out; nothing changed, kept, printed, read or imported."""

import builtins
import contextlib
import inspect
import io
import math
import sys
import unittest
from unittest import mock

import cladebook.trees
from cladebook.trees import answers
from tests.helper import (TOP, chain_sets, changes, clades, clock, common, count, cut, differ, drop, joint, links, node,
                          nth, rank, read, run, sets, settle, shows, text, told_text, under)


def joined(*calls):
    return [number for call in calls for number in call]


def every_call():
    return joined(
        read(0, "((1,2),3);"), read(1, "(3,3);"), sets(1, 14, [12, 0]), sets(2, 7, [3, 6]), drop(9), text(0),
        clades(1), node(0, 6), under(0, 6, 1), differ(0, 1), shows(0, 1), text(1), drop(0), text(0), node(1, 0),
        text(16), read(0, "(" * 63 + "0" + "".join(f",{n})" for n in range(1, 64)) + ";"), text(0),
        read(2, "(1,2,(3,4));"), read(3, "((1,4),2,3);"), common(1, 2, 4, [2, 3, 2]), joint(5, [2, 4]),
        joint(6, [2, 3]), changes(2, [5, 6, 5, 6], list(range(64))), clock(14, 7, [1, 2, 2]), clock(14, 8, [1, 2, 3]),
        links(15, [5, 4, 3, 2, 1, 0]), count(2), nth(2, 2, 9), rank(2, 9), nth(2, 3, 9), settle(9, 0, [1, 2, 2, 63]),
        settle(0, 0, list(range(64))), changes(0, [kind % 8 for kind in range(64)], list(range(64))),
        joint(1, list(range(0, 10)) * 6), joint(1, [0, 2, 4, 5, 7, 9]), sets(8, TOP, []), nth(8, 10 ** 100, 8),
        rank(8, 8), clades(8), common(TOP, TOP, 8, [0]), text(8),
    )


class Untouched(list):
    """A list that can't be changed, not for a while either."""

    def refuse(self, *values, **named):
        raise AssertionError("what is handed in is changed")

    __setitem__ = __delitem__ = __iadd__ = __imul__ = refuse
    append = extend = insert = pop = remove = clear = sort = reverse = refuse


class Interface(unittest.TestCase):
    def test_name_and_argument(self):
        self.assertEqual(list(inspect.signature(cladebook.trees.answers).parameters), ["calls"])
        self.assertEqual(answers(calls=[4, 0]), [1, -2])

    def test_counts_stand_ahead(self):
        calls = joined(read(0, "(1,2);"), text(0), clades(0), node(0, 2), sets(0, 7, [3, 6]), read(0, "(1"),
                       text(16))
        self.assertEqual(answers(calls), [1, 1,
                                          7, 6, 40, 49, 44, 50, 41, 59,
                                          3, 1, 6, 6,
                                          3, 0, 2, 1,
                                          3, 0, 0, 1,
                                          2, -6, 2,
                                          1, -1])

    def test_counts_stand_ahead_of_the_later_calls(self):
        ones = [1] * 64
        calls = joined(read(0, "(1,2,3);"), common(1, 2, 1, [0, 0]), joint(1, [0]), changes(0, [5, 5, 6], ones),
                       clock(14, 1, [1, 2, 3]), clock(14, 1, [2, 2, 2]), links(14, [4, 3, 2]), links(2, []), count(0),
                       nth(0, 1, 1), rank(0, 1), rank(0, 0), settle(1, 1, [1, 2, 3]), joint(1, []), nth(0, 3, 1))
        self.assertEqual(answers(calls), [1, 1,
                                          1, 1,
                                          1, 1,
                                          2, 1, 5,
                                          4, 0, 1, 2, 3,
                                          1, 1,
                                          9, 2, 4, 8, 2, 1, 2, 12, 7, 2,
                                          1, 0,
                                          1, 3,
                                          1, 2,
                                          1, 1,
                                          1, -3,
                                          8, 0, 0, 14, 0, 0, 12, 0, 0,
                                          1, -3,
                                          1, -3])

    def test_all_eighteen_on_one_book(self):
        steps = [
            (read(0, "(1,2,(3,4));"), [2]),
            (sets(1, 30, [18]), [1]),
            (text(1), told_text("((1,4),2,3);")),
            (clades(0), [2, 30, 30, 24]),
            (node(0, 24), [2, 24, 1, 8, 16]),
            (under(0, 26, 2), [2]),
            (differ(0, 1), [2]),
            (shows(0, 2), [1]),
            (common(1, 2, 3, [0, 1, 0]), [2]),
            (text(3), told_text("(1,2,(3,4));")),
            (joint(4, [0, 1]), [0, 26]),
            (text(4), [-2]),
            (joint(4, [2, 0]), [1]),
            (text(4), told_text("(1,2,(3,4));")),
            (changes(4, [5, 5, 6, 6], [1] * 64), [1, 5, 6]),
            (clock(30, 5, [2, 4, 4, 4, 4, 6]), [0, 1, 3, 4]),
            (text(5), [-2]),
            (clock(30, 5, [2, 4, 4, 4, 4, 4]), [1]),
            (text(5), told_text("((1,2),3,4);")),
            (links(30, [2, 4, 4, 4, 4, 3]), [3, 2, 4, 2, 1, 8, 16, 3, 1, 6, 24, 16, 4]),
            (count(5), [3]),
            (nth(5, 2, 6), [3]),
            (text(6), told_text("(((1,2),4),3);")),
            (rank(5, 6), [2]),
            (settle(6, 6, [1, 1, 2, 3]), [2, 5, 30, 1, 3, 30, 0, 2, 2, 1, 0]),
            (drop(6), [0]),
            (count(6), [-2]),
            (text(0), told_text("(1,2,(3,4));")),
        ]
        self.assertEqual(sorted({call[0] for call, answer in steps}), list(range(1, 19)))
        self.assertEqual(run(*[call for call, answer in steps]), [answer for call, answer in steps])

    def test_whole_numbers_and_a_list(self):
        told = answers(every_call())
        self.assertIs(type(told), list)
        self.assertEqual([number for number in told if type(number) is not int], [])

    def test_what_is_handed_in_is_not_changed(self):
        calls = every_call()
        before = list(calls)
        answers(calls)
        self.assertEqual(calls, before)
        self.assertEqual(answers(Untouched(calls)), answers(calls))

    def test_what_is_given_back_is_not_kept(self):
        calls = every_call()
        first = answers(calls)
        copy = list(first)
        first.clear()
        self.assertEqual(answers(calls), copy)

    def test_the_same_list_twice(self):
        calls = every_call()
        self.assertEqual(answers(calls), answers(calls))

    def test_a_book_is_new_each_time(self):
        answers(read(0, "(1,2);"))
        self.assertEqual(answers(text(0)), [1, -2])

    def test_100_calls(self):
        told = run(*[read(n % 16, f"({n % 7},{n % 11 + 7});") for n in range(50)],
                   *[text(n % 16) for n in range(34, 50)],
                   *[differ(n % 16, n % 15) for n in range(34)])
        self.assertEqual(len(told), 100)
        self.assertEqual(told[:50], [[1]] * 50)
        self.assertEqual(told[50:66], [told_text(f"({n % 7},{n % 11 + 7});") for n in range(34, 50)])

    def test_100_calls_of_the_longest_text(self):
        chain = [2 ** n - 1 for n in range(65)]
        told = run(sets(0, TOP, chain), *[text(0)] * 99)
        self.assertEqual(len(told), 100)
        self.assertEqual(told[1:], [told[1]] * 99)
        self.assertEqual(told[1][0], 308)

    def test_100_later_calls(self):
        numbers = [7 ** n for n in range(49)]
        told = run(sets(0, TOP, []), count(0), *[call for k in numbers for call in (nth(0, k, 1), rank(0, 1))])
        self.assertEqual(len(told), 100)
        self.assertEqual(told[2:], [answer for k in numbers for answer in ([63], [k])])

    def test_100_calls_that_join_and_settle(self):
        chain = chain_sets(list(range(64)))
        told = run(sets(0, TOP, chain), settle(0, 0, [0] * 64), *[joint(1, [0, 1 if n else 0]) for n in range(98)])
        self.assertEqual(told[2:], [[1]] * 98)

    def test_2700_numbers_of_the_later_calls(self):
        calls = joined(clock(TOP, 0, [4] * 2016), links(2 ** 36 - 1, [3] * 630), joint(1, [0]), *[count(1)] * 20,
                       node(1, 2 ** 63))
        self.assertEqual(len(calls), 2700)
        told = cut(answers(calls))
        merges = [number for size in range(1, 36) for number in (2 ** size - 1, 2 ** size, 3 * size, size)]
        self.assertEqual(told, [[1], [35] + merges, [1]] + [[math.prod(range(1, 126, 2))]] * 20 + [[0, 2 ** 63, 1]])

    def test_2700_numbers(self):
        row = [6] * 256
        calls = joined(*[sets(n, 14, row) for n in range(10)], read(10, "(1,2);" + " " * 88))
        self.assertEqual(len(calls), 2697)
        self.assertEqual(cut(answers(calls)), [[1]] * 10 + [[-6, 6]])
        calls = joined(read(0, "(" * 2600), read(0, "1;"), text(0))
        self.assertEqual(cut(answers(calls)), [[-6, 63], [0], told_text("1;")])

    def test_rows_that_look_like_calls(self):
        self.assertEqual(run([2, 0, 7, 3, 1, 4, 6], text(0)), [[1], told_text("(0,(1,2));")])
        self.assertEqual(run([1, 0, 3, 4, 0, 5], text(0)), [[-6, 0], [-2]])
        self.assertEqual(run([1, 0, 0], [2, 0, 7, 0], text(0)), [[-6, 0], [1], told_text("(0,1,2);")])

    def test_prints_reads_and_imports_nothing(self):
        calls = every_call()
        out = io.StringIO()
        refuse = mock.Mock(side_effect=AssertionError("not asked for"))
        with contextlib.redirect_stdout(out), contextlib.redirect_stderr(out), \
                mock.patch.object(builtins, "__import__", refuse), mock.patch.object(builtins, "open", refuse), \
                mock.patch.object(builtins, "input", refuse):
            answers(calls)
        self.assertEqual(out.getvalue(), "")

    def test_nesting_needs_no_deep_recursion(self):
        calls = every_call() + read(1, "(" * 2000)
        expected = answers(calls)
        depth = len(inspect.stack())
        limit = sys.getrecursionlimit()
        sys.setrecursionlimit(depth + 25)
        try:
            got = answers(calls)
        finally:
            sys.setrecursionlimit(limit)
        self.assertEqual(got, expected)


if __name__ == "__main__":
    unittest.main()
