"""Call 14, links."""

import itertools
import random
import unittest
from fractions import Fraction

from tests.helper import TOP, kinds_of, links, read, run, whole_book

MOST = 2 ** 32 - 1


def by_fractions(kinds, distances):
    """What links answers, by fractions and by all distances gone through anew each time."""
    apart = dict(zip(itertools.combinations(kinds, 2), distances, strict=True))
    groups = [[kind] for kind in kinds]
    told = []

    def between(one, other):
        return [apart[min(x, y), max(x, y)] for x in one for y in other]

    while len(groups) > 1:
        pairs = [sorted(pair, key=min) for pair in itertools.combinations(groups, 2)]
        ways = [(Fraction(sum(between(*pair)), len(between(*pair))), min(pair[0]), min(pair[1]), pair)
                for pair in pairs]
        one, other = min(ways)[3]
        told += [kinds_of(*one), kinds_of(*other), sum(between(one, other)), len(one) * len(other)]
        groups.remove(one)
        groups.remove(other)
        groups.insert(0, one + other)
    return [len(kinds) - 1] + told


class Links(unittest.TestCase):
    def tells(self, kinds, distances, *merges):
        told = [len(merges)]
        for one, other, total, how_many in merges:
            told += [kinds_of(*one), kinds_of(*other), total, how_many]
        self.assertEqual(run(links(kinds_of(*kinds), distances)), [told])

    def test_one_kind(self):
        for kind in (0, 7, 63):
            self.tells([kind], [])

    def test_two_kinds(self):
        self.tells([0, 63], [5], ([0], [63], 5, 1))
        self.tells([8, 9], [0], ([8], [9], 0, 1))

    def test_three_kinds(self):
        self.tells([1, 2, 3], [2, 5, 8], ([1], [2], 2, 1), ([1, 2], [3], 13, 2))
        self.tells([1, 2, 3], [5, 2, 8], ([1], [3], 2, 1), ([1, 3], [2], 13, 2))
        self.tells([1, 2, 3], [5, 8, 2], ([2], [3], 2, 1), ([1], [2, 3], 13, 2))

    def test_two_and_two(self):
        # 0-5, 0-6, 0-63, 5-6, 5-63, 6-63
        self.tells([0, 5, 6, 63], [9, 8, 2, 1, 7, 8],
                   ([5], [6], 1, 1), ([0], [63], 2, 1), ([0, 63], [5, 6], 32, 4))

    def test_equal_averages(self):
        self.tells([0, 1, 2, 3], [5] * 6, ([0], [1], 5, 1), ([0, 1], [2], 10, 2), ([0, 1, 2], [3], 15, 3))
        # 2 and 3 are as near as 0 and 1, which come first.
        self.tells([0, 1, 2, 3], [5, 9, 9, 9, 9, 5], ([0], [1], 5, 1), ([2], [3], 5, 1), ([0, 1], [2, 3], 36, 4))
        # 0 and 3 are as near as 1 and 2.
        self.tells([0, 1, 2, 3], [9, 9, 5, 5, 9, 9], ([0], [3], 5, 1), ([1], [2], 5, 1), ([0, 3], [1, 2], 36, 4))
        # 0 and 2 are as near as 0 and 3.
        self.tells([0, 1, 2, 3], [9, 5, 5, 9, 9, 9], ([0], [2], 5, 1), ([0, 2], [3], 14, 2), ([0, 2, 3], [1], 27, 3))

    def test_equal_averages_of_groups(self):
        # 0 and 3 are merged; then they are as far from 1 as 1 is from 2, and come first by their least kind.
        self.tells([0, 1, 2, 3], [6, 20, 1, 6, 6, 20], ([0], [3], 1, 1), ([0, 3], [1], 12, 2), ([0, 1, 3], [2], 46, 3))
        # 1 and 2 are merged; then they are as far from 0 as 0 is from 3, and come first by the other least kind.
        self.tells([0, 1, 2, 3], [6, 6, 6, 1, 20, 20], ([1], [2], 1, 1), ([0], [1, 2], 12, 2),
                   ([0, 1, 2], [3], 46, 3))
        # 2 and 3 are merged; then 1 is as far from them as from 0, and 0 and 1 come first.
        self.tells([0, 1, 2, 3], [6, 20, 20, 6, 6, 1], ([2], [3], 1, 1), ([0], [1], 6, 1), ([0, 1], [2, 3], 52, 4))

    def test_averages_that_differ_by_less_than_1(self):
        # 0 and 1 together are 21 / 2 from 2.
        self.tells([0, 1, 2, 3], [1, 10, 100, 11, 100, 10], ([0], [1], 1, 1), ([2], [3], 10, 1),
                   ([0, 1], [2, 3], 221, 4))
        self.tells([0, 1, 2, 3], [1, 10, 100, 11, 100, 11], ([0], [1], 1, 1), ([0, 1], [2], 21, 2),
                   ([0, 1, 2], [3], 211, 3))

    def test_averages_not_sums(self):
        # The sum 12 of four distances is less, one by one, than the sum 4 of one.
        self.tells([0, 1, 2, 3, 4], [1, 3, 3, 4, 3, 3, 9, 1, 9, 9],
                   ([0], [1], 1, 1), ([2], [3], 1, 1), ([0, 1], [2, 3], 12, 4), ([0, 1, 2, 3], [4], 31, 4))

    def test_averages_are_of_all_distances(self):
        # Not the average of two averages: 0, 1 and 2 together are (30 + 30 + 90) / 3 from 3.
        self.tells([0, 1, 2, 3], [1, 8, 30, 8, 30, 90],
                   ([0], [1], 1, 1), ([0, 1], [2], 16, 2), ([0, 1, 2], [3], 150, 3))

    def test_distances_as_great_as_can_be(self):
        self.tells([1, 2, 3], [MOST, MOST, MOST], ([1], [2], MOST, 1), ([1, 2], [3], 2 * MOST, 2))
        self.tells([1, 2, 3, 4], [MOST - 1, MOST, MOST, MOST, MOST, MOST],
                   ([1], [2], MOST - 1, 1), ([1, 2], [3], 2 * MOST, 2), ([1, 2, 3], [4], 3 * MOST, 3))
        # 2 MOST - 1 over two is less than MOST by a half.
        self.tells([1, 2, 3, 4], [0, MOST, MOST, MOST, MOST - 1, MOST],
                   ([1], [2], 0, 1), ([1, 2], [4], 2 * MOST - 1, 2), ([1, 2, 4], [3], 3 * MOST, 3))

    def test_64_equal_kinds(self):
        kinds = list(range(64))
        self.tells(kinds, [MOST] * 2016, *[(kinds[:size], [size], size * MOST, size) for size in range(1, 64)])

    def test_64_kinds_by_halves(self):
        distances = [(x ^ y).bit_length() for x, y in itertools.combinations(range(64), 2)]
        merges = [(range(begin, begin + half), range(begin + half, begin + 2 * half),
                   half * half * (2 * half).bit_length() - half * half, half * half)
                  for half in (1, 2, 4, 8, 16, 32) for begin in range(0, 64, 2 * half)]
        self.tells(range(64), distances, *merges)

    def test_made_up_distances(self):
        chance = random.Random(14)
        for time in range(60):
            kinds = sorted(chance.sample(range(64), chance.randint(1, 8)))
            most = chance.choice([1, 2, 4, 30, MOST])
            distances = [chance.randint(0, most) for pair in itertools.combinations(kinds, 2)]
            self.assertEqual(run(links(kinds_of(*kinds), distances)), [by_fractions(kinds, distances)])

    def test_made_up_distances_of_64_kinds(self):
        chance = random.Random(64)
        for most in (3, MOST):
            distances = [chance.randint(0, most) for pair in range(2016)]
            self.assertEqual(run(links(TOP, distances)), [by_fractions(list(range(64)), distances)])

    def test_nothing_is_put(self):
        fill = [read(0, "((1,2),3);"), read(6, "9;")]
        got = run(*fill, links(6, [4]), *whole_book())
        self.assertEqual(got[2], [1, 2, 4, 4, 1])
        self.assertEqual(got[3:], run(*fill, *whole_book())[2:])

    def test_minus_3(self):
        for call in (links(0, []), links(0, [1]), links(7, [1, 1]), links(7, [1, 1, 1, 1]), links(7, []),
                     links(1, [0]), links(6, []), links(6, [1, 1]), links(TOP, [1] * 2015),
                     links(TOP, [1] * 2017), links(TOP, [1] * 2048)):
            self.assertEqual(run(call), [[-3]], call[:3])


if __name__ == "__main__":
    unittest.main()
