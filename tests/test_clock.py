"""Call 13, clock."""

import itertools
import random
import unittest

from tests.helper import TOP, clades, clock, kinds_of, read, run, text, told_text, whole_book

MOST = 2 ** 32 - 1


def row_of(kinds, distance):
    """The distances of these kinds as a row."""
    return [distance(x, y) for x, y in itertools.combinations(sorted(kinds), 2)]


def bars_in(kinds, distances):
    """All three kinds whose greatest distance occurs but once, in order."""
    apart = dict(zip(itertools.combinations(kinds, 2), distances, strict=True))
    found = []
    for x, y, z in itertools.combinations(kinds, 3):
        three = [apart[x, y], apart[x, z], apart[y, z]]
        if three.count(max(three)) == 1:
            found.append([x, y, z])
    return found


class Clock(unittest.TestCase):
    def tells(self, kinds, distances, words):
        got = run(clock(kinds_of(*kinds), 4, distances), text(4))
        self.assertEqual(got, [[1], told_text(words)])

    def bars(self, kinds, distances, bar):
        fill = [read(0, "((1,2),3);"), read(4, "9;")]
        before = run(*fill, *whole_book())[2:]
        for q in (0, 4, 5):
            got = run(*fill, clock(kinds_of(*kinds), q, distances), *whole_book())[2:]
            self.assertEqual(got[0], [0] + bar)
            self.assertEqual(got[1:], before)

    def test_three_kinds(self):
        self.tells([1, 2, 3], [2, 4, 4], "((1,2),3);")
        self.tells([1, 2, 3], [4, 2, 4], "((1,3),2);")
        self.tells([1, 2, 3], [4, 4, 2], "(1,(2,3));")

    def test_rows_are_by_the_lesser_then_by_the_other(self):
        # 0-5, 0-6, 0-63, 5-6, 5-63, 6-63
        self.tells([0, 5, 6, 63], [1, 9, 9, 9, 9, 1], "((0,5),(6,63));")
        self.tells([0, 5, 6, 63], [9, 1, 9, 9, 1, 9], "((0,6),(5,63));")
        self.tells([0, 5, 6, 63], [9, 9, 1, 1, 9, 9], "((0,63),(5,6));")
        self.tells([0, 5, 6, 63], [5, 9, 7, 9, 7, 9], "(((0,5),63),6);")
        self.tells([0, 5, 6, 63], [5, 5, 7, 5, 7, 7], "((0,5,6),63);")

    def test_equal_distances(self):
        self.tells([1, 2, 3], [4, 4, 4], "(1,2,3);")
        self.tells([0, 5, 6, 63], [8] * 6, "(0,5,6,63);")
        self.tells(list(range(64)), [MOST] * 2016, "(" + ",".join(map(str, range(64))) + ");")

    def test_distances_0(self):
        self.tells([1, 2, 3], [0, 0, 0], "(1,2,3);")
        self.tells([1, 2, 3], [0, 4, 4], "((1,2),3);")
        self.tells([1, 2, 3], [4, 4, 0], "(1,(2,3));")
        self.tells([0, 5, 6, 63], [0, 0, 7, 0, 7, 7], "((0,5,6),63);")
        self.tells([8, 9], [0], "(8,9);")
        self.bars([1, 2, 3], [0, 0, 1], [1, 2, 3])

    def test_distances_as_great_as_can_be(self):
        self.tells([1, 2, 3], [MOST - 1, MOST, MOST], "((1,2),3);")
        self.bars([1, 2, 3], [MOST - 1, MOST, MOST - 1], [1, 2, 3])
        self.bars([1, 2, 3], [0, MOST, MOST - 1], [1, 2, 3])

    def test_one_kind(self):
        for kind in (0, 7, 63):
            self.tells([kind], [], f"{kind};")

    def test_two_kinds(self):
        self.tells([0, 63], [5], "(0,63);")
        self.tells([0, 63], [MOST], "(0,63);")

    def test_64_kinds(self):
        distances = row_of(range(64), lambda x, y: (x ^ y).bit_length())
        halves = [kinds_of(*range(begin, begin + size)) for size in (2, 4, 8, 16, 32, 64)
                  for begin in range(0, 64, size)]
        got = run(clock(TOP, 0, distances), clades(0))
        self.assertEqual(got, [[1], [63, TOP] + sorted(halves, reverse=True)])

    def test_64_kinds_in_a_chain(self):
        distances = row_of(range(64), lambda x, y: y * 60000000)
        got = run(clock(TOP, 0, distances), clades(0))
        self.assertEqual(got, [[1], [63, TOP] + [2 ** size - 1 for size in range(64, 1, -1)]])

    def test_64_kinds_that_are_barred(self):
        distances = row_of(range(64), lambda x, y: (x ^ y).bit_length())
        self.bars(list(range(64)), distances[:-1] + [9], [0, 62, 63])
        self.bars(list(range(64)), distances[:-1] + [3], [60, 62, 63])

    def test_what_bars_is_told_by_kinds(self):
        self.bars([3, 40, 63], [1, 2, 3], [3, 40, 63])

    def test_the_first_three_that_bar(self):
        # By x, then by y, then by z: 0-5, 0-6, 0-63, 5-6, 5-63, 6-63.
        self.bars([0, 5, 6, 63], [1, 2, 3, 9, 8, 7], [0, 5, 6])
        self.bars([0, 5, 6, 63], [1, 3, 4, 3, 9, 4], [0, 5, 63])
        self.bars([0, 5, 6, 63], [9, 9, 9, 1, 2, 9], [5, 6, 63])
        self.bars([0, 5, 6, 63], [1, 2, 3, 2, 3, 1], [0, 6, 63])
        self.bars([0, 5, 6, 63], [3, 1, 1, 3, 3, 2], [0, 6, 63])

    def test_made_up_distances(self):
        chance = random.Random(13)
        heads = set()
        for time in range(200):
            kinds = sorted(chance.sample(range(64), chance.randint(3, 7)))
            distances = row_of(kinds, lambda x, y: (x ^ y).bit_length())
            for change in range(chance.randint(0, 2)):
                distances[chance.randrange(len(distances))] += chance.choice([1, 2, 5])
            found = bars_in(kinds, distances)
            got = run(clock(kinds_of(*kinds), 0, distances))[0]
            self.assertEqual(got, [0] + found[0] if found else [1], (kinds, distances))
            heads.add(got[0])
        self.assertEqual(heads, {0, 1})

    def test_q_takes_the_place_of_what_was_there(self):
        got = run(read(4, "((6,7),9);"), clock(6, 4, [3]), clades(4))
        self.assertEqual(got[1:], [[1], [1, 6, 6]])

    def test_minus_3(self):
        for call in (clock(0, 4, []), clock(0, 4, [1]), clock(7, 4, [1, 1]), clock(7, 4, [1, 1, 1, 1]),
                     clock(7, 4, []), clock(1, 4, [0]), clock(6, 4, []), clock(6, 4, [1, 1]),
                     clock(TOP, 4, [1] * 2015), clock(TOP, 4, [1] * 2017), clock(TOP, 4, [1] * 2048),
                     clock(7, 4, [1, 2]), clock(0, 9, [])):
            got = run(read(4, "(1,2);"), call, text(4), text(9))
            self.assertEqual(got[1:], [[-3], told_text("(1,2);"), [-2]], call[:4])


if __name__ == "__main__":
    unittest.main()
