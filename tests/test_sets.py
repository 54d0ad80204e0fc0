"""Call 2, sets."""

import unittest

from tests.helper import TOP, clades, read, run, sets, text, told_text


class SetsThatAreATree(unittest.TestCase):
    def gives(self, kinds, row, expected):
        got = run(sets(5, kinds, row), clades(5))
        self.assertEqual(got, [[1], [len(expected), kinds] + expected])

    def test_ordinary(self):
        self.gives(0b11111, [0b00011, 0b11100, 0b11000], [0b11111, 0b11100, 0b11000, 0b00011])

    def test_kinds_among_the_sets_or_not(self):
        self.gives(0b111, [0b111, 0b11], [0b111, 0b11])
        self.gives(0b111, [0b11], [0b111, 0b11])

    def test_none_and_one_kind_are_no_clades(self):
        self.gives(0b111, [0, 0b1, 0b10, 0b100, 0, 0b110], [0b111, 0b110])

    def test_the_same_set_twice(self):
        self.gives(0b1111, [0b11, 0b1100, 0b11, 0b1111, 0b1111], [0b1111, 0b1100, 0b11])

    def test_no_sets(self):
        self.gives(0b1011, [], [0b1011])

    def test_one_kind(self):
        self.gives(0b1000, [], [])
        self.gives(0b1000, [0b1000, 0, 0b1000], [])
        self.gives(2 ** 63, [2 ** 63], [])
        self.assertEqual(run(sets(0, 2 ** 63, []), text(0))[1], told_text("63;"))

    def test_all_kinds(self):
        self.gives(TOP, [], [TOP])
        chain = [2 ** n - 1 for n in range(65)]
        self.gives(TOP, chain, [2 ** n - 1 for n in range(64, 1, -1)])

    def test_256_sets(self):
        self.gives(TOP, [TOP - 1] * 255 + [6], [TOP, TOP - 1, 6])

    def test_takes_the_place_of_what_was_there(self):
        got = run(read(5, "(8,9);"), sets(5, 7, [3]), clades(5))
        self.assertEqual(got, [[1], [1], [2, 7, 7, 3]])


class SetsThatCross(unittest.TestCase):
    def crosses(self, kinds, row, i, j):
        got = run(read(0, "(1,2);"), sets(0, kinds, row), text(0), sets(1, kinds, row), text(1))
        self.assertEqual(got, [[1], [0, i, j], told_text("(1,2);"), [0, i, j], [-2]])

    def test_ordinary(self):
        self.crosses(0b111, [0b011, 0b110], 0, 1)

    def test_first_by_i_then_by_j(self):
        self.crosses(0b1111, [0b1111, 0b0011, 0b1100, 0b0110, 0b1010], 1, 3)
        self.crosses(0b1111, [0b0001, 0b1100, 0b0011, 0b1010, 0b0110], 1, 3)
        # 1 and 2 cross ahead of 0 and 4 if j were to go first.
        self.crosses(0b111111, [0b110000, 0b000011, 0b000110, 0, 0b011000], 0, 4)

    def test_last_two_of_256(self):
        self.crosses(TOP, [0b1] * 254 + [0b110, 0b1100], 254, 255)

    def test_all_kinds(self):
        self.crosses(TOP, [TOP, TOP - 1, TOP - 2], 1, 2)
        self.crosses(TOP, [2 ** 63 + 1, 2 ** 63 + 2], 0, 1)


class SetsRefused(unittest.TestCase):
    def refused(self, kinds, row):
        got = run(read(0, "(1,2);"), sets(0, kinds, row), text(0))
        self.assertEqual(got, [[1], [-3], told_text("(1,2);")])

    def test_kinds_none(self):
        self.refused(0, [])
        self.refused(0, [0])
        self.refused(0, [1])

    def test_a_set_not_within(self):
        self.refused(0b111, [0b1000])
        self.refused(0b111, [0b1100])
        self.refused(0b111, [0b011, 0b1111])
        self.refused(1, [TOP])

    def test_ahead_of_crossing(self):
        self.refused(0b111, [0b011, 0b110, 0b1000])


if __name__ == "__main__":
    unittest.main()
