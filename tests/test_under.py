"""Call 7, under."""

import unittest

from tests.helper import TOP, clades, kinds_of, read, run, sets, text, told_text, under


class Under(unittest.TestCase):
    words = "((0,(2,5),3),(1,4),6);"

    def cuts(self, kinds, words, count):
        got = run(read(2, self.words), under(2, kinds, 3), text(2), text(3), under(2, kinds, 2), text(2))
        self.assertEqual(got[1:], [[count], told_text(self.words), told_text(words), [count], told_text(words)])

    def test_all_kinds_stay(self):
        self.cuts(127, self.words, 4)
        self.cuts(TOP, self.words, 4)

    def test_some_kinds_stay(self):
        self.cuts(kinds_of(0, 1, 2, 4), "((0,2),(1,4));", 3)
        self.cuts(kinds_of(2, 3, 5), "((2,5),3);", 2)
        self.cuts(kinds_of(0, 3, 6), "((0,3),6);", 2)
        self.cuts(kinds_of(0, 1, 6), "(0,1,6);", 1)
        self.cuts(kinds_of(2, 5), "(2,5);", 1)

    def test_kinds_of_the_set_that_the_tree_has_not(self):
        self.cuts(kinds_of(2, 5, 6, 7, 63), "((2,5),6);", 2)

    def test_one_kind_left(self):
        self.cuts(kinds_of(5), "5;", 0)
        self.cuts(kinds_of(6, 7), "6;", 0)

    def test_none_left(self):
        for kinds in (0, 128, TOP - 127):
            got = run(read(2, self.words), read(3, "9;"), under(2, kinds, 3), under(2, kinds, 2),
                      under(2, kinds, 4), text(2), text(3), text(4))
            self.assertEqual(got[2:], [[-3], [-3], [-3], told_text(self.words), told_text("9;"), [-2]])

    def test_takes_the_place_of_what_was_at_q(self):
        got = run(read(0, "((1,2),3);"), read(1, "(7,8,9);"), under(0, 6, 1), clades(1), clades(0))
        self.assertEqual(got[2:], [[1], [1, 6, 6], [2, 14, 14, 6]])

    def test_q_without_a_tree_is_no_refusal(self):
        self.assertEqual(run(read(0, "(1,2);"), under(0, 2, 15), text(15))[1:], [[0], told_text("1;")])

    def test_clades_that_become_the_same(self):
        chain = [2 ** n - 1 for n in range(65)]
        got = run(sets(0, TOP, chain), under(0, kinds_of(0, 31, 63), 0), clades(0))
        self.assertEqual(got[1:], [[2], [2, kinds_of(0, 31, 63), kinds_of(0, 31, 63), kinds_of(0, 31)]])

    def test_one_kind_tree(self):
        got = run(read(0, "4;"), under(0, TOP, 1), text(1), under(0, 8, 1), text(1))
        self.assertEqual(got[1:], [[0], told_text("4;"), [-3], told_text("4;")])


if __name__ == "__main__":
    unittest.main()
