"""Calls 8 and 9: differ, shows."""

import unittest

from tests.helper import TOP, differ, drop, kinds_of, read, run, sets, shows, text, told_text


class Differ(unittest.TestCase):
    def both_ways(self, one, other, answer):
        got = run(read(0, one), read(1, other), differ(0, 1), differ(1, 0), text(0), text(1))
        self.assertEqual(got[2:4], [answer, answer])

    def test_equal_trees(self):
        self.both_ways("((1,2),(3,4));", "((4,3),(2,1));", [0])
        self.both_ways("5;", "5;", [0])
        self.assertEqual(run(read(3, "((1,2),3);"), differ(3, 3))[1], [0])

    def test_clades_that_just_one_has(self):
        self.both_ways("((1,2),3);", "(1,(2,3));", [2])
        self.both_ways("((1,2),3);", "(1,2,3);", [1])
        self.both_ways("((1,2),(3,4));", "(((1,2),3),4);", [2])
        self.both_ways("((1,2),(3,4),5);", "(1,2,(3,4,5));", [3])

    def test_most(self):
        chain = [2 ** n - 1 for n in range(65)]
        other = [TOP - 2 ** n + 1 for n in range(64)]
        got = run(sets(0, TOP, chain), sets(1, TOP, other), differ(0, 1))
        self.assertEqual(got[2], [124])

    def test_other_kinds(self):
        self.both_ways("(1,2);", "(1,3);", [-3])
        self.both_ways("(1,2);", "(1,2,3);", [-3])
        self.both_ways("1;", "2;", [-3])
        self.both_ways("1;", "(1,2);", [-3])


class Shows(unittest.TestCase):
    def shows(self, one, other, answer):
        got = run(read(0, one), read(1, other), shows(0, 1), text(0), text(1))
        self.assertEqual(got[2], answer, (one, other))
        self.assertEqual(got[3][0], len(one))
        self.assertEqual(got[4][0], len(other))

    def test_equal_trees(self):
        self.shows("((1,2),(3,4));", "((1,2),(3,4));", [1])
        self.shows("5;", "5;", [1])
        self.assertEqual(run(read(0, "((1,2),3);"), shows(0, 0))[1], [1])

    def test_the_same_kinds(self):
        self.shows("((1,2),3);", "(1,2,3);", [1])
        self.shows("(1,2,3);", "((1,2),3);", [0])
        self.shows("((1,2),3);", "(1,(2,3));", [0])

    def test_kinds_within(self):
        self.shows("((0,(2,5),3),(1,4),6);", "((0,2),(1,4));", [1])
        self.shows("((0,(2,5),3),(1,4),6);", "(((2,5),3),6);", [1])
        self.shows("((0,(2,5),3),(1,4),6);", "((0,3),2);", [0])
        self.shows("((0,(2,5),3),(1,4),6);", "((1,6),4);", [0])
        self.shows("((0,(2,5),3),(1,4),6);", "(1,6);", [1])
        self.shows("((0,(2,5),3),(1,4),6);", "(0,1,6);", [1])
        self.shows("((0,(2,5),3),(1,4),6);", "5;", [1])

    def test_one_clade_of_several_is_not_shown(self):
        self.shows("(((0,1),2),(3,4,5));", "((0,1),(3,(4,5)));", [0])
        self.shows("(((0,1),2),(3,(4,5)));", "((0,1),(3,(4,5)));", [1])

    def test_kinds_not_all_within(self):
        self.shows("(1,2);", "(1,3);", [-3])
        self.shows("(1,2);", "(1,2,3);", [-3])
        self.shows("(1,2);", "3;", [-3])
        self.shows("1;", "(1,2);", [-3])

    def test_all_kinds(self):
        chain = [2 ** n - 1 for n in range(65)]
        got = run(sets(0, TOP, chain), sets(1, TOP, []), shows(0, 1), shows(1, 0),
                  read(2, "((0,40),63);"), shows(0, 2), read(2, "(0,(40,63));"), shows(0, 2))
        self.assertEqual(got[2:], [[1], [0], [2], [1], [2], [0]])


class ManyCalls(unittest.TestCase):
    def test_several_calls_on_one_book(self):
        got = run(
            read(0, "((1,2),(3,4));"),
            sets(1, kinds_of(1, 2, 3, 4), [kinds_of(1, 2), kinds_of(1, 2, 3)]),
            differ(0, 1),
            shows(0, 1),
            [7, 0, kinds_of(1, 2, 3), 2],
            shows(1, 2),
            text(2),
            drop(1),
            differ(0, 1),
            text(0),
        )
        self.assertEqual(got, [[3], [1], [2], [0], [2], [1], told_text("((1,2),3);"), [0], [-2],
                               told_text("((1,2),(3,4));")])


if __name__ == "__main__":
    unittest.main()
