"""Calls 3, 4 and 5: drop, text, clades; a tree's text, read, is that tree."""

import unittest

from tests.helper import TOP, clades, drop, kinds_of, read, run, sets, text, told_text


class Texts(unittest.TestCase):
    def test_parts_in_the_order_of_their_least_kinds(self):
        got = run(sets(0, 0b111111, [0b100001, 0b011010, 0b011000]), text(0))
        self.assertEqual(got[1], told_text("((0,5),(1,(3,4)),2);"))

    def test_order_is_of_numbers_not_of_signs(self):
        got = run(sets(0, kinds_of(2, 9, 10, 11, 63), [kinds_of(9, 63)]), text(0))
        self.assertEqual(got[1], told_text("(2,(9,63),10,11);"))

    def test_what_read_put_told_again(self):
        got = run(read(0, "(63,(7,(2,9),3),0);"), text(0), clades(0))
        self.assertEqual(got[1], told_text("(0,((2,9),3,7),63);"))
        self.assertEqual(got[2], [3, kinds_of(0, 2, 3, 7, 9, 63), kinds_of(0, 2, 3, 7, 9, 63),
                                  kinds_of(2, 3, 7, 9), kinds_of(2, 9)])

    def test_one_kind(self):
        self.assertEqual(run(read(0, "0;"), text(0)), [[0], [2, 48, 59]])
        self.assertEqual(run(read(0, "63;"), text(0)), [[0], [3, 54, 51, 59]])

    def test_longest_text(self):
        chain = [2 ** n - 1 for n in range(2, 65)]
        words = "(" * 63 + "0" + "".join(f",{kind})" for kind in range(1, 64)) + ";"
        self.assertEqual(run(sets(0, TOP, chain), text(0))[1], told_text(words))

    def test_a_text_read_is_that_tree(self):
        for kinds, row in (
            (TOP, []),
            (TOP, [2 ** n - 1 for n in range(65)]),
            (TOP, [TOP - 2 ** n + 1 for n in range(64)]),
            (TOP, [3 << (2 * n) for n in range(32)] + [15 << (4 * n) for n in range(16)]),
            (2 ** 40, []),
            (kinds_of(1, 10, 11, 12, 60), [kinds_of(1, 11), kinds_of(10, 60), kinds_of(10, 12, 60)]),
        ):
            first = run(sets(0, kinds, row), text(0), clades(0))
            words = bytes(first[1][1:])
            again = run(read(9, words), text(9), clades(9))
            self.assertEqual(again[0], [first[2][0]])
            self.assertEqual(again[1:], first[1:])


class Clades(unittest.TestCase):
    def test_in_falling_order(self):
        got = run(read(0, "((0,(1,2)),(3,4),(5,6));"), clades(0))
        self.assertEqual(got[1], [5, 127, 127, 96, 24, 7, 6])

    def test_order_is_of_sets_not_of_their_sizes(self):
        got = run(read(0, "((0,1,2,3),(4,5));"), clades(0))
        self.assertEqual(got[1], [3, 63, 63, 48, 15])

    def test_one_kind(self):
        self.assertEqual(run(read(0, "5;"), clades(0)), [[0], [0, 32]])

    def test_all_kinds(self):
        self.assertEqual(run(sets(15, TOP, [TOP]), clades(15)), [[1], [1, TOP, TOP]])


class Drop(unittest.TestCase):
    def test_there_is_no_tree_any_more(self):
        got = run(read(0, "(1,2);"), read(1, "5;"), drop(0), text(0), text(1), drop(0))
        self.assertEqual(got, [[1], [0], [0], [-2], [2, 53, 59], [-2]])

    def test_a_place_can_be_put_to_again(self):
        got = run(read(0, "(1,2);"), drop(0), read(0, "(3,4);"), text(0))
        self.assertEqual(got, [[1], [0], [1], told_text("(3,4);")])

    def test_a_tree_told_from_another_place_stays(self):
        got = run(read(0, "(1,2,3);"), [7, 0, TOP, 1], drop(0), text(1))
        self.assertEqual(got, [[1], [1], [0], told_text("(1,2,3);")])


if __name__ == "__main__":
    unittest.main()
