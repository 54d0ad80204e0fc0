"""Refusals: -1 ahead of -2 ahead of -3, of each call; what's refused changes nothing."""

import unittest

from tests.helper import (TOP, clades, differ, drop, node, read, run, sets, shows, text, told_text, under,
                          whole_book)

ABOVE = (16, 17, 2 ** 32, 2 ** 63, TOP)


def filled():
    """Calls that put trees at the places 0, 1 and 15; no others have any."""
    return [read(0, "((1,2),3);"), sets(1, 0b111000, [0b11000]), read(15, "(2,3,9);")]


class Refusals(unittest.TestCase):
    def answers_and_keeps(self, call, answer):
        before = run(*filled(), *whole_book())[3:]
        got = run(*filled(), call, *whole_book())
        self.assertEqual(got[3], answer, call)
        self.assertEqual(got[4:], before, call)

    def test_place_above_15(self):
        for p in ABOVE:
            for call in (read(p, "(1,2);"), sets(p, 7, [3]), drop(p), text(p), clades(p), node(p, 2),
                         under(p, 2, 0), under(0, 2, p), under(p, 2, p),
                         differ(p, 0), differ(0, p), differ(p, p),
                         shows(p, 0), shows(0, p), shows(p, p)):
                self.answers_and_keeps(call, [-1])

    def test_place_15_is_good(self):
        got = run(read(15, "(1,2);"), text(15), clades(15), node(15, 2), under(15, 2, 15), differ(15, 15),
                  shows(15, 15), sets(15, 7, []), drop(15), text(15))
        self.assertEqual(got, [[1], told_text("(1,2);"), [1, 6, 6], [0, 2, 1], [0], [0], [1], [1], [0], [-2]])

    def test_no_tree(self):
        for call in (drop(2), text(2), clades(2), node(2, 2), under(2, 2, 0), under(2, 2, 2),
                     differ(2, 0), differ(0, 2), differ(2, 2), shows(2, 0), shows(0, 2), shows(2, 2)):
            self.answers_and_keeps(call, [-2])

    def test_every_place_is_without_a_tree_at_first(self):
        for p in range(16):
            self.assertEqual(run(text(p)), [[-2]])

    def test_place_above_15_ahead_of_no_tree(self):
        for p in ABOVE:
            for call in (under(2, 2, p), differ(2, p), differ(p, 2), shows(2, p), shows(p, 2)):
                self.answers_and_keeps(call, [-1])

    def test_place_above_15_ahead_of_the_rest(self):
        for p in ABOVE:
            for call in (read(p, ""), read(p, "(5)"), sets(p, 0, []), sets(p, 7, [8]), sets(p, 7, [3, 6]),
                         node(p, 0), under(0, 0, p), under(p, 0, 0)):
                self.answers_and_keeps(call, [-1])

    def test_no_tree_ahead_of_the_rest(self):
        for call in (node(2, 0), node(2, TOP), under(2, 0, 3)):
            self.answers_and_keeps(call, [-2])

    def test_the_rest(self):
        for call in (sets(0, 0, []), sets(0, 7, [8]), sets(2, 7, [3, 6, 8]), node(0, 0), node(0, 32),
                     under(0, 0, 1), under(0, 1, 2), under(0, 1, 0), differ(0, 1), differ(0, 15),
                     shows(0, 1), shows(0, 15), shows(15, 0)):
            self.answers_and_keeps(call, [-3])

    def test_fault(self):
        for p in (0, 2, 15):
            self.answers_and_keeps(read(p, "(3,3);"), [-6, 4])

    def test_sets_that_cross_change_nothing(self):
        for p in (0, 2, 15):
            self.answers_and_keeps(sets(p, 7, [3, 6]), [0, 0, 1])

    def test_calls_that_only_ask_change_nothing(self):
        for call, answer in ((text(1), told_text("((3,4),5);")), (clades(15), [1, 524, 524]),
                             (node(0, 6), [2, 6, 1, 2, 4]), (differ(0, 0), [0]), (shows(0, 0), [1])):
            self.answers_and_keeps(call, answer)


if __name__ == "__main__":
    unittest.main()
