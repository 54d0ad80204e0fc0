"""Calls 15, 16, 17: count, nth, rank."""

import math
import random
import unittest

from tests.helper import TOP, chain_sets, clades, count, cut, answers, nth, rank, read, run, sets, text, told_text

STAR_COUNT = math.prod(range(1, 126, 2))
MOST = 2 ** 384 - 1


class Count(unittest.TestCase):
    def test_counts(self):
        for words, many in (("((1,2),3);", 1), ("7;", 1), ("(1,2);", 1), ("(1,2,3);", 3), ("(1,2,3,4);", 15),
                            ("(1,2,3,4,5);", 105), ("((1,2),3,4);", 3), ("((1,2,3),(4,5,6));", 9),
                            ("((1,2,3),(4,5,6,7),8,9);", 3 * 15 * 15), ("(((1,2,3),4,5),6,7);", 27)):
            self.assertEqual(run(read(0, words), count(0), text(0))[1:], [[many], told_text(words)])

    def test_64_kinds(self):
        self.assertEqual(run(sets(0, TOP, []), count(0))[1], [STAR_COUNT])
        self.assertTrue(2 ** 340 < STAR_COUNT < MOST)
        self.assertEqual(run(sets(0, TOP, chain_sets(list(range(64)))), count(0))[1], [1])


class Nth(unittest.TestCase):
    def lists(self, words, expected):
        """These are all split trees of the tree, by their numbers."""
        for k, one in enumerate(expected):
            got = run(read(0, words), nth(0, k, 1), text(1), rank(0, 1), text(0))
            self.assertEqual(got[1:], [[one.count("(")], told_text(one), [k], told_text(words)], (words, k))
        got = run(read(0, words), read(1, "5;"), count(0), nth(0, len(expected), 1), text(1))
        self.assertEqual(got[2:], [[len(expected)], [-3], told_text("5;")])

    def test_three_kinds(self):
        self.lists("(0,1,2);", ["((0,1),2);", "(0,(1,2));", "((0,2),1);"])
        self.lists("(5,9,63);", ["((5,9),63);", "(5,(9,63));", "((5,63),9);"])

    def test_four_kinds(self):
        self.lists("(0,1,2,3);", [
            # 2 is put to 0 and 1; nodes falling: 012, 2, 01, 1, 0
            "(((0,1),2),3);", "((0,1),(2,3));", "(((0,1),3),2);", "((0,(1,3)),2);", "(((0,3),1),2);",
            # 2 is put to 1; nodes falling: 012, 12, 2, 1, 0
            "((0,(1,2)),3);", "(0,((1,2),3));", "(0,(1,(2,3)));", "(0,((1,3),2));", "((0,3),(1,2));",
            # 2 is put to 0; nodes falling: 012, 02, 2, 1, 0
            "(((0,2),1),3);", "(((0,2),3),1);", "((0,(2,3)),1);", "((0,2),(1,3));", "(((0,3),2),1);",
        ])

    def test_greater_clades_have_the_weightier_digits(self):
        self.lists("((0,1,2),(3,4,5));", [
            "(((0,1),2),((3,4),5));", "((0,(1,2)),((3,4),5));", "(((0,2),1),((3,4),5));",
            "(((0,1),2),(3,(4,5)));", "((0,(1,2)),(3,(4,5)));", "(((0,2),1),(3,(4,5)));",
            "(((0,1),2),((3,5),4));", "((0,(1,2)),((3,5),4));", "(((0,2),1),((3,5),4));",
        ])
        # The clade with 63 is the greater one, though it has the least kind of all.
        self.lists("((0,1,63),(2,3,4));", [
            "(((0,1),63),((2,3),4));", "(((0,1),63),(2,(3,4)));", "(((0,1),63),((2,4),3));",
            "((0,(1,63)),((2,3),4));", "((0,(1,63)),(2,(3,4)));", "((0,(1,63)),((2,4),3));",
            "(((0,63),1),((2,3),4));", "(((0,63),1),(2,(3,4)));", "(((0,63),1),((2,4),3));",
        ])

    def test_the_whole_ahead_of_what_lies_in_it(self):
        self.lists("((0,1,2),3,4);", [
            # 4 is put to 0, 1, 2 and 3 together; to 3; to 0, 1, 2
            "((((0,1),2),3),4);", "(((0,(1,2)),3),4);", "((((0,2),1),3),4);",
            "(((0,1),2),(3,4));", "((0,(1,2)),(3,4));", "(((0,2),1),(3,4));",
            "((((0,1),2),4),3);", "(((0,(1,2)),4),3);", "((((0,2),1),4),3);",
        ])

    def test_parts_that_are_clades(self):
        # By their least kinds: 0 and 3, then 1, then 2 and 4; nodes falling: 013, 03, 1.
        self.lists("((0,3),1,(2,4));", ["(((0,3),1),(2,4));", "(((0,3),(2,4)),1);", "((0,3),(1,(2,4)));"])
        # By their least kinds: 0, then 1 and 5, then 2; nodes falling: 015, 15, 0.
        self.lists("(0,(1,5),2);", ["((0,(1,5)),2);", "(0,((1,5),2));", "((0,2),(1,5));"])

    def test_trees_that_are_split(self):
        for words in ("7;", "(1,2);", "((1,2),3);", "(((0,4),2),(1,3));"):
            self.lists(words, [words])

    def test_every_number_of_105_is_another_tree(self):
        seen = set()
        for begin in range(0, 105, 21):
            calls = [call for k in range(begin, begin + 21) for call in (nth(0, k, 1), clades(1), rank(0, 1))]
            got = run(read(0, "((0,1),2,3,(4,6),5);"), *calls)[1:]
            for at in range(21):
                self.assertEqual(got[3 * at], [6])
                self.assertEqual(got[3 * at + 2], [begin + at])
                self.assertTrue({3, 127, 80} <= set(got[3 * at + 1][2:]))
                seen.add(tuple(got[3 * at + 1]))
        self.assertEqual(len(seen), 105)

    def test_numbers_of_a_64_kinds_star(self):
        chance = random.Random(16)
        numbers = [0, 1, 124, 125, STAR_COUNT // 2, STAR_COUNT - 2, STAR_COUNT - 1]
        numbers += [chance.randrange(STAR_COUNT) for time in range(20)]
        calls = [call for k in numbers for call in (nth(0, k, 1), rank(0, 1), rank(1, 1))]
        got = run(sets(0, TOP, []), *calls)[1:]
        self.assertEqual(got, [answer for k in numbers for answer in ([63], [k], [0])])

    def test_first_and_last_of_a_64_kinds_star(self):
        got = run(sets(0, TOP, []), nth(0, 0, 1), clades(1), nth(0, STAR_COUNT - 1, 2), clades(2))
        chain = chain_sets(list(range(64)))
        self.assertEqual(got[1:3], [[63], [63, TOP] + chain[::-1]])
        # Each is put to the least node there is, which is 0 alone.
        chain = chain_sets([0] + list(range(63, 0, -1)))
        self.assertEqual(got[3:], [[63], [63, TOP] + sorted(chain, reverse=True)])

    def test_numbers_as_great_as_can_be(self):
        fill = [sets(0, TOP, []), read(1, "((1,2),3);")]
        for call in (nth(0, STAR_COUNT, 1), nth(0, STAR_COUNT + 1, 1), nth(0, MOST, 1), nth(0, MOST, 0),
                     nth(1, 1, 1), nth(1, MOST, 0)):
            got = run(*fill, call, clades(0), clades(1))
            self.assertEqual(got[2:], [[-3], [1, TOP, TOP], [2, 14, 14, 6]])

    def test_q_is_p(self):
        got = run(read(3, "(0,1,2);"), nth(3, 1, 3), text(3), count(3), nth(3, 0, 3), text(3), nth(3, 1, 3))
        self.assertEqual(got[1:], [[2], told_text("(0,(1,2));"), [1], [2], told_text("(0,(1,2));"), [-3]])

    def test_q_takes_the_place_of_what_was_there(self):
        got = run(read(0, "(1,2);"), read(1, "((6,7),9);"), nth(0, 0, 1), clades(1))
        self.assertEqual(got[2:], [[1], [1, 6, 6]])

    def test_a_tree_of_one_kind(self):
        got = run(read(0, "7;"), nth(0, 0, 1), text(1), rank(0, 1), nth(0, 1, 2), text(2))
        self.assertEqual(got[1:], [[0], told_text("7;"), [0], [-3], [-2]])


class Rank(unittest.TestCase):
    def ranks(self, words, split, answer):
        got = run(read(0, words), read(1, split), rank(0, 1), text(0), text(1))
        self.assertEqual(got[2:], [answer, told_text(words), told_text(split)])

    def test_ranks(self):
        self.ranks("(0,1,2);", "(0,(1,2));", [1])
        self.ranks("(0,1,2,3);", "((0,2),(1,3));", [13])
        self.ranks("((0,1,2),(3,4,5));", "((0,(1,2)),((3,5),4));", [7])
        self.ranks("((0,1),2,3);", "((0,1),(2,3));", [1])

    def test_a_split_tree_of_its_own(self):
        self.ranks("((0,1),(2,3));", "((0,1),(2,3));", [0])
        self.assertEqual(run(read(0, "((0,1),(2,3));"), rank(0, 0))[1], [0])

    def test_other_kinds(self):
        self.ranks("(0,1,2);", "((0,1),3);", [-3])
        self.ranks("(0,1,2);", "(0,1);", [-3])
        self.ranks("(0,1);", "((0,1),2);", [-3])
        self.ranks("5;", "6;", [-3])
        self.ranks("5;", "(5,6);", [-3])
        # All clades of the first are there, and the other is split.
        self.ranks("((0,1),2);", "(((0,1),2),3);", [-3])

    def test_a_tree_that_is_not_split(self):
        self.ranks("(0,1,2);", "(0,1,2);", [-3])
        self.ranks("(0,1,2,3);", "((0,1),2,3);", [-3])
        self.ranks("(0,1,2,3);", "((0,1,2),3);", [-3])
        self.assertEqual(run(read(0, "(0,1,2);"), rank(0, 0))[1], [-3])

    def test_a_tree_that_lacks_a_clade(self):
        self.ranks("((0,1),2);", "(0,(1,2));", [-3])
        self.ranks("((0,1),2,3);", "(((0,2),1),3);", [-3])
        self.ranks("((0,1),(2,3),4);", "((((0,1),2),3),4);", [-3])

    def test_made_up_trees_of_64_kinds(self):
        chance = random.Random(17)
        for time in range(10):
            inner = [2 ** chance.randint(2, 63) - 1 for one in range(chance.randint(0, 4))]
            fill = [sets(0, TOP, inner), count(0)]
            many = run(*fill)[1][0]
            numbers = [chance.randrange(many) for one in range(9)] + [many - 1]
            calls = [call for k in numbers for call in (nth(0, k, 1), rank(0, 1))]
            got = run(*fill, *calls, nth(0, many, 1))
            self.assertEqual(got[2:], [answer for k in numbers for answer in ([63], [k])] + [[-3]])


class Numbers(unittest.TestCase):
    def test_great_numbers_are_whole(self):
        told = cut(answers(sets(0, TOP, []) + count(0) + nth(0, STAR_COUNT - 1, 1) + rank(0, 1)))
        self.assertEqual([type(answer[0]) for answer in told], [int] * 4)
        self.assertEqual(told[3], [STAR_COUNT - 1])


if __name__ == "__main__":
    unittest.main()
