"""Call 11, joint."""

import random
import unittest

from tests.helper import (TOP, chain_sets, clades, joint, kinds_of, read, run, sets, shows, text, told_text,
                          whole_book)


def all_trees(kinds):
    """The clades of every tree of these kinds, each a sorted list of sets."""
    if len(kinds) == 1:
        return [[]]
    found = set()
    for inner in all_trees(kinds[1:]):
        # The first kind is put beside a node, or into a clade; all are put under a new clade if it is beside all.
        nodes = inner + [kinds_of(kind) for kind in kinds[1:]]
        one = kinds_of(kinds[0])
        for node in nodes:
            above = [clade | one if clade & node == node and clade != node else clade for clade in inner]
            found.add(tuple(sorted(set(above + [node | one]))))
        for into in inner:
            found.add(tuple(sorted({clade | one if clade & into == into else clade for clade in inner})))
    return [list(clade_sets) for clade_sets in found]


class AllTrees(unittest.TestCase):
    def test_how_many(self):
        # What the tests below stand on: 1, 1, 4, 26, 236 trees of 1 to 5 kinds.
        self.assertEqual([len(all_trees(list(range(size)))) for size in range(1, 6)], [1, 1, 4, 26, 236])


class Joint(unittest.TestCase):
    def joins(self, words, joined):
        """The trees of these texts joined are the tree of this one, and it shows them all."""
        places = list(range(len(words)))
        fill = [read(p, one) for p, one in enumerate(words)]
        for order in (places, places[::-1], places + places):
            got = run(*fill, joint(15, order), text(15), *[shows(15, p) for p in places])
            self.assertEqual(got[len(words):], [[1], told_text(joined)] + [[1]] * len(words), words)

    def bars(self, words, bar):
        """What bars the joining of these trees is this set, and nothing is put."""
        places = list(range(len(words)))
        fill = [read(p, one) for p, one in enumerate(words)] + [read(15, "(62,63);")]
        before = run(*fill, *whole_book())[len(fill):]
        for q in (0, 14, 15):
            for order in (places, places[::-1], places + places):
                got = run(*fill, joint(q, order), *whole_book())[len(fill):]
                self.assertEqual(got[0], [0, bar], words)
                self.assertEqual(got[1:], before, words)

    def test_one_tree(self):
        for words in ("(((0,1),2),(3,4,5));", "(1,2);", "(1,2,3);", "((5,9),60);"):
            self.joins([words], words)

    def test_the_same_tree_twice(self):
        words = "(((0,1),2),(3,4,5));"
        self.joins([words, words], words)

    def test_no_kinds_in_common(self):
        self.joins(["((1,2),3);", "((4,5),6);"], "((1,2),3,(4,5),6);")
        self.joins(["(1,2);", "(3,4);", "(5,6);"], "(1,2,3,4,5,6);")
        self.joins(["(((1,2),7),3);", "4;"], "(((1,2),7),3,4);")

    def test_trees_of_one_kind(self):
        self.joins(["7;"], "7;")
        self.joins(["7;", "7;"], "7;")
        self.joins(["7;", "5;"], "(5,7);")
        self.joins(["7;", "5;", "60;"], "(5,7,60);")
        self.joins(["7;", "((7,8),9);"], "((7,8),9);")

    def test_one_shows_the_other(self):
        self.joins(["(((1,2),3),4);", "((1,2),4);"], "(((1,2),3),4);")
        self.joins(["((1,2),(3,4));", "(1,2,3,4);"], "((1,2),(3,4));")
        self.joins(["(1,2,3,4);", "((1,3),4);"], "((1,3),2,4);")

    def test_clades_of_both(self):
        self.joins(["((1,2),3,4,5);", "(1,2,3,(4,5));"], "((1,2),3,(4,5));")
        self.joins(["((1,2),3);", "((2,3),4);"], "(((1,2),3),4);")
        self.joins(["((1,2),3);", "((3,4),5);", "((1,5),6);"], "((1,2,5),(3,4),6);")

    def test_link_by_link(self):
        # 1-2, 2-3 and 3-4 are bound, so that all of them are one block beside 9.
        self.joins(["((1,2),9);", "((2,3),9);", "((3,4),9);"], "((1,2,3,4),9);")

    def test_a_clade_with_all_kinds_that_its_tree_has_in_the_set_binds_nothing(self):
        # Within 1, 2, 3 the first tree has 1 and 2 alone, and its clade has both.
        self.joins(["((1,2),9);", "((1,2,3),9);"], "((1,2,3),9);")
        # So has a clade that goes on beyond the set.
        self.joins(["((1,2,8),9);", "(((1,3),2),9);"], "(((1,3),2,8),9);")

    def test_all_kinds_bar(self):
        self.bars(["((1,2),3);", "(1,(2,3));"], kinds_of(1, 2, 3))
        self.bars(["((1,2),3);", "((2,3),4);", "((3,4),1);"], kinds_of(1, 2, 3, 4))

    def test_a_bar_that_is_not_all_kinds(self):
        self.bars(["(((1,2),3),4);", "((1,(2,3)),4);"], kinds_of(1, 2, 3))
        self.bars(["((((1,2),3),4),5);", "(((1,(2,3)),4),5);"], kinds_of(1, 2, 3))

    def test_the_greatest_of_several_bars(self):
        self.bars(["(((0,1),2),((5,6),7),9);", "(((0,2),1),((5,7),6),9);"], kinds_of(5, 6, 7))
        # The greatest as a number, though the other one has more kinds and is found no later.
        self.bars(["((0,((1,2),3)),((5,6),7),9);", "((1,((2,3),0)),((5,7),6),9);"], kinds_of(5, 6, 7))
        self.bars(["((5,((6,7),8)),((1,2),3),9);", "((6,((7,8),5)),((1,3),2),9);"], kinds_of(5, 6, 7, 8))

    def test_a_greater_bar_found_later(self):
        # 1, 2, 3 are found at once; 61, 62, 63 only within what is left of 60 to 63 and 59.
        self.bars(["(((1,2),3),((60,((61,62),63)),59));", "(((1,3),2),((60,((61,63),62)),59));"],
                  kinds_of(61, 62, 63))

    def test_sets_that_are_found_and_have_several_blocks_are_no_bar(self):
        self.bars(["(((1,2),3),((61,62),63));", "(((1,3),2),((61,62),63));"], kinds_of(1, 2, 3))

    def test_q_is_one_of_the_places(self):
        got = run(read(0, "((1,2),3);"), read(1, "((2,3),4);"), joint(1, [0, 1]), text(1), text(0))
        self.assertEqual(got[2:], [[1], told_text("(((1,2),3),4);"), told_text("((1,2),3);")])

    def test_64_kinds(self):
        rising = chain_sets(list(range(64)))
        evens = chain_sets(list(range(0, 64, 2)))
        odds = chain_sets(list(range(1, 64, 2)))
        got = run(sets(0, TOP, rising), sets(1, evens[-1], evens), sets(2, odds[-1], odds),
                  joint(3, [0, 1, 2]), clades(3), joint(4, [1, 2]), clades(4))
        self.assertEqual(got[3:5], [[1], [63, TOP] + rising[::-1]])
        inner = sorted(evens[:-1] + odds[:-1] + [TOP], reverse=True)
        self.assertEqual(got[5:], [[1], [61, TOP] + inner])

    def test_64_kinds_that_one_tree_bars(self):
        rising = chain_sets(list(range(64)))
        got = run(sets(0, TOP, rising), read(1, "(0,(62,63));"), joint(2, [0, 1]), clades(2))
        self.assertEqual(got[2:], [[0, TOP], [-2]])
        got = run(sets(0, TOP, rising), read(1, "(0,(1,2));"), joint(2, [0, 1]), clades(2))
        self.assertEqual(got[2:], [[0, 7], [-2]])

    def test_64_places(self):
        fill = [read(p, f"(({p},{p + 1}),{p + 2});") for p in range(16)]
        got = run(*fill, joint(0, list(range(16)) * 4), text(0))
        self.assertEqual(got[16:], [[1], told_text("(" * 17 + "0" + "".join(f",{n})" for n in range(1, 18)) + ";")])

    def test_no_places(self):
        for q in (0, 1, 15):
            self.assertEqual(run(read(0, "(1,2);"), joint(q, []), text(0), text(1)),
                             [[1], [-3], told_text("(1,2);"), [-2]])


class BesideAllTrees(unittest.TestCase):
    def test_joined_all_are_shown_and_barred_none_shows_all(self):
        chance = random.Random(11)
        trees = {size: all_trees(list(range(size))) for size in range(1, 6)}
        heads = []
        for time in range(60):
            places = list(range(chance.randint(2, 4)))
            fill = []
            for p in places:
                size = chance.choice([3, 4, 5])
                kinds = sorted(chance.sample(range(5), size))
                fill.append(sets(p, kinds_of(*kinds), self.renamed(chance.choice(trees[size]), kinds)))
            got = run(*fill, joint(9, places), *[shows(9, p) for p in places])[len(fill):]
            heads.append(got[0][0])
            if got[0] == [1]:
                self.assertEqual(got[1:], [[1]] * len(places), fill)
            else:
                self.assertFalse(self.some_tree_shows_all(fill, trees[5]), fill)
        self.assertEqual(sorted(set(heads)), [0, 1])

    def renamed(self, clade_sets, kinds):
        """The same clades of other kinds."""
        return [kinds_of(*[kinds[at] for at in range(len(kinds)) if one >> at & 1]) for one in clade_sets]

    def some_tree_shows_all(self, fill, trees):
        places = range(len(fill))
        for part in [trees[at:at + 16] for at in range(0, len(trees), 16)]:
            asked = [call for one in part for call in [sets(15, 31, one)] + [shows(15, p) for p in places]]
            got = run(*fill, *asked)[len(fill):]
            for at in range(len(part)):
                begin = at * (len(places) + 1) + 1
                if all(answer == [1] for answer in got[begin:begin + len(places)]):
                    return True
        return False


if __name__ == "__main__":
    unittest.main()
