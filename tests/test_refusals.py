"""Refusals: -1 ahead of -2 ahead of -3, of each call; what's refused or barred changes nothing."""

import unittest

from tests.helper import (TOP, changes, clades, clock, common, count, differ, drop, joint, links, node, nth, rank,
                          read, run, sets, settle, shows, text, told_text, under, whole_book)

ABOVE = (16, 17, 2 ** 32, 2 ** 63, TOP)
COSTS = [1] * 64
GREAT = 2 ** 384 - 1


def filled():
    """Calls that put trees at the places 0, 1 and 15; no others have any."""
    return [read(0, "((1,2),3);"), sets(1, 0b111000, [0b11000]), read(15, "(2,3,9);")]


class Refusals(unittest.TestCase):
    def answers_and_keeps(self, call, answer):
        before = run(*filled(), *whole_book())[3:]
        got = run(*filled(), call, *whole_book())
        self.assertEqual(got[3], answer, call)
        self.assertEqual(got[4:], before, call)

    def test_place_above_15(self):
        for p in ABOVE:
            for call in (read(p, "(1,2);"), sets(p, 7, [3]), drop(p), text(p), clades(p), node(p, 2),
                         under(p, 2, 0), under(0, 2, p), under(p, 2, p),
                         differ(p, 0), differ(0, p), differ(p, p),
                         shows(p, 0), shows(0, p), shows(p, p),
                         common(1, 2, p, [0]), common(1, 2, 0, [p]), common(1, 2, 0, [0, 0, p]),
                         common(1, 2, 0, [p, 0]), common(1, 2, 0, [0] * 63 + [p]), common(1, 2, p, [p]),
                         joint(p, [0]), joint(0, [p]), joint(0, [0, 1, p]), joint(0, [p, 0]),
                         joint(0, [0] * 63 + [p]), joint(p, [p]),
                         changes(p, [0, 0, 0], COSTS), clock(7, p, [1, 1, 1]), count(p),
                         nth(p, 0, 0), nth(0, 0, p), nth(p, 0, p), rank(p, 0), rank(0, p), rank(p, p),
                         settle(p, 0, [1, 1, 1]), settle(0, p, [1, 1, 1]), settle(p, p, [1, 1, 1])):
                self.answers_and_keeps(call, [-1])

    def test_place_15_is_good(self):
        got = run(read(15, "(1,2);"), text(15), clades(15), node(15, 2), under(15, 2, 15), differ(15, 15),
                  shows(15, 15), sets(15, 7, []), drop(15), text(15))
        self.assertEqual(got, [[1], told_text("(1,2);"), [1, 6, 6], [0, 2, 1], [0], [0], [1], [1], [0], [-2]])
        got = run(clock(6, 15, [1]), common(1, 2, 15, [15]), joint(15, [15]), changes(15, [0, 1], COSTS), count(15),
                  nth(15, 0, 15), rank(15, 15), settle(15, 15, [1, 2]), text(15))
        self.assertEqual(got, [[1], [1], [1], [1, 0], [1], [1], [0], [0, 0, 6, 0, 0], told_text("(1,2);")])

    def test_numbers_above_15_that_are_no_places(self):
        # a, b and k, kinds and what stands in rows may be as great as it likes.
        got = run(read(0, "(62,63);"), common(16, 17, 1, [0]), common(TOP, TOP, 1, [0]), clock(3 * 2 ** 62, 1, [99]),
                  links(3 * 2 ** 62, [16]), nth(0, 16, 1), settle(0, 0, [63, 62]), text(1))
        self.assertEqual(got[1:], [[1], [1], [1], [1, 2 ** 62, 2 ** 63, 16, 1], [-3], [0, 0, 3 * 2 ** 62, 0, 0],
                                   told_text("(62,63);")])

    def test_no_tree(self):
        for call in (drop(2), text(2), clades(2), node(2, 2), under(2, 2, 0), under(2, 2, 2),
                     differ(2, 0), differ(0, 2), differ(2, 2), shows(2, 0), shows(0, 2), shows(2, 2),
                     common(1, 2, 0, [2]), common(1, 2, 0, [0, 2]), common(1, 2, 0, [2, 0]), common(1, 2, 2, [2]),
                     joint(0, [2]), joint(0, [0, 2]), joint(0, [2, 0]), joint(2, [2]),
                     changes(2, [0, 0, 0], COSTS), count(2), nth(2, 0, 0), nth(2, 0, 2),
                     rank(2, 0), rank(0, 2), rank(2, 2), settle(2, 0, [1]), settle(0, 2, [1, 1, 1]),
                     settle(2, 2, [1])):
            self.answers_and_keeps(call, [-2])

    def test_a_place_that_is_written_to_needs_no_tree(self):
        for call, answer in ((under(0, 6, 2), [1]), (common(1, 2, 2, [0]), [2]), (joint(2, [0]), [1]),
                             (clock(6, 2, [1]), [1]), (nth(0, 0, 2), [2])):
            got = run(*filled(), call, clades(2))[3:]
            self.assertEqual(got[0], answer, call)
            self.assertGreater(got[1][0], 0, call)

    def test_every_place_is_without_a_tree_at_first(self):
        for p in range(16):
            self.assertEqual(run(text(p), joint(0, [p]), common(1, 2, 0, [p]), count(p)), [[-2]] * 4)

    def test_a_dropped_tree_is_not_there(self):
        got = run(read(0, "(1,2);"), drop(0), joint(1, [0]), common(1, 2, 1, [0]), changes(0, [0, 0], COSTS),
                  count(0), nth(0, 0, 1), rank(0, 0), settle(0, 0, [1, 1]))
        self.assertEqual(got, [[1], [0]] + [[-2]] * 7)

    def test_place_above_15_ahead_of_no_tree(self):
        for p in ABOVE:
            for call in (under(2, 2, p), differ(2, p), differ(p, 2), shows(2, p), shows(p, 2),
                         common(1, 2, p, [2]), common(1, 2, 0, [2, p]), common(1, 2, 0, [p, 2]),
                         joint(p, [2]), joint(0, [2, p]), joint(0, [p, 2]), nth(2, 0, p),
                         rank(2, p), rank(p, 2), settle(2, p, [1]), settle(p, 2, [1])):
                self.answers_and_keeps(call, [-1])

    def test_place_above_15_ahead_of_the_rest(self):
        for p in ABOVE:
            for call in (read(p, ""), read(p, "(5)"), sets(p, 0, []), sets(p, 7, [8]), sets(p, 7, [3, 6]),
                         node(p, 0), under(0, 0, p), under(p, 0, 0),
                         common(1, 2, p, []), common(0, 0, p, [0]), common(0, 0, 0, [p]), common(1, 2, p, [0, 1]),
                         common(0, 1, 0, [0, 1, p]), joint(p, []), changes(p, [], []), changes(p, [8], COSTS),
                         clock(0, p, []), clock(7, p, [1]), clock(7, p, [1, 2, 3]), nth(0, GREAT, p),
                         nth(p, GREAT, 0), rank(p, 15), rank(15, p), settle(p, 15, []), settle(15, p, []),
                         settle(0, p, [255])):
                self.answers_and_keeps(call, [-1])

    def test_no_tree_ahead_of_the_rest(self):
        for call in (node(2, 0), node(2, TOP), under(2, 0, 3),
                     common(0, 0, 0, [2]), common(0, 1, 0, [0, 2]), common(1, 2, 0, [0, 1, 2]),
                     changes(2, [], []), changes(2, [255], COSTS), nth(2, GREAT, 0), rank(15, 2), rank(2, 15),
                     settle(2, 15, []), settle(15, 2, []), settle(0, 2, [255])):
            self.answers_and_keeps(call, [-2])

    def test_the_rest(self):
        for call in (sets(0, 0, []), sets(0, 7, [8]), sets(2, 7, [3, 6, 8]), node(0, 0), node(0, 32),
                     under(0, 0, 1), under(0, 1, 2), under(0, 1, 0), differ(0, 1), differ(0, 15),
                     shows(0, 1), shows(0, 15), shows(15, 0),
                     common(1, 2, 0, []), common(1, 0, 1, [0]), common(1, 3, 1, [0]), common(1, 2, 0, [0, 1]),
                     common(1, 2, 2, [0, 15]), joint(0, []), joint(2, []),
                     changes(0, [0, 0], COSTS), changes(0, [0, 0, 8], COSTS), changes(0, [0, 0, 0], COSTS[:63]),
                     clock(0, 0, []), clock(7, 0, [1, 1]), clock(7, 2, [1, 1, 1, 1]),
                     links(0, []), links(7, [1, 1]), nth(0, 1, 0), nth(15, 3, 15), nth(15, GREAT, 2),
                     rank(0, 1), rank(15, 15), rank(15, 0), settle(0, 15, [2, 3, 9]), settle(15, 0, [1, 2, 3]),
                     settle(0, 1, [3, 4]), settle(0, 1, [3, 4, 1])):
            self.answers_and_keeps(call, [-3])

    def test_fault(self):
        for p in (0, 2, 15):
            self.answers_and_keeps(read(p, "(3,3);"), [-6, 4])

    def test_what_is_barred_changes_nothing(self):
        for p in (0, 2, 15):
            self.answers_and_keeps(sets(p, 7, [3, 6]), [0, 0, 1])
            self.answers_and_keeps(clock(14, p, [1, 2, 3]), [0, 1, 2, 3])
        before = run(*filled(), read(3, "(1,(2,3));"), *whole_book())[4:]
        for q in (0, 2, 3, 15):
            got = run(*filled(), read(3, "(1,(2,3));"), joint(q, [0, 3]), *whole_book())[4:]
            self.assertEqual(got, [[0, 14]] + before)

    def test_calls_that_only_ask_change_nothing(self):
        for call, answer in ((text(1), told_text("((3,4),5);")), (clades(15), [1, 524, 524]),
                             (node(0, 6), [2, 6, 1, 2, 4]), (differ(0, 0), [0]), (shows(0, 0), [1]),
                             (changes(0, [1, 2, 2], COSTS), [1, 2, 2]), (links(6, [7]), [1, 2, 4, 7, 1]),
                             (count(15), [3]), (rank(0, 0), [0]), (settle(0, 1, [3, 3, 5]), [1, 1, 56, 0, 1, 8, 1, 0])):
            self.answers_and_keeps(call, answer)


if __name__ == "__main__":
    unittest.main()
