"""What the document promises over all calls: C1 to C6, each where no one call's tests hold it whole."""

import unittest

from tests.helper import (TOP, chain_sets, changes, clades, clock, common, count, differ, joint, node, nth, rank, read,
                          run, sets, settle, shows, text, under, whole_book)
from tests.test_joint import all_trees


def put_by_all():
    """Calls that put trees at the places 0 to 13, each call that puts any among them."""
    return [read(0, "((5,(63,2)),(7,9,8),1);"), sets(1, TOP, chain_sets(list(range(20, 64)))), under(0, 2 ** 9 - 1, 2),
            under(1, TOP, 3), sets(4, TOP, chain_sets(list(range(63, 30, -1)))[:20]), common(1, 2, 5, [1, 4, 1]),
            common(1, 1, 6, [1, 4]), joint(7, [0, 2]), joint(8, [2, 6]),
            clock(0b1110110, 9, [4, 6, 6, 6, 6, 6, 6, 2, 6, 6]), nth(0, 7, 10), nth(4, 10 ** 40, 11), nth(2, 0, 12),
            clock(2 ** 63, 13, [])]


class Trees(unittest.TestCase):
    """C1: what stands in the book are trees; a tree's text, read, is that tree."""

    def test_all_that_is_put(self):
        put = put_by_all()
        for p in range(14):
            got = run(*put, text(p), clades(p))
            self.assertTrue(all(answer[0] >= 0 for answer in got), (p, got[:len(put)]))
            words, told = got[-2], got[-1]
            again = run([1, 0, words[0]] + words[1:], clades(0), text(0))
            self.assertEqual(again, [[told[0]], told, words], p)

    def test_their_clades(self):
        put = put_by_all()
        for p in range(14):
            many, kinds, *told = run(*put, clades(p))[-1]
            self.assertEqual(many, len(told))
            self.assertEqual(told, sorted(set(told), reverse=True))
            self.assertTrue(all(clade & (clade - 1) and clade & kinds == clade for clade in told))
            self.assertTrue(all(one & other in (0, one, other) for one in told for other in told))
            self.assertEqual(told[:1], [kinds] if kinds & (kinds - 1) else [])

    def test_by_hand(self):
        got = run(*put_by_all(), text(9), text(7), text(2), text(13), text(12))[-5:]
        words = ["".join(map(chr, answer[1:])) for answer in got]
        self.assertEqual(words, ["((1,2),(4,5),6);", "(1,((2,63),5),(7,8,9));", "(1,(2,5),(7,8));", "63;",
                                 "((1,(2,5)),(7,8));"])


class Numbers(unittest.TestCase):
    """C4: every split tree has a number, and no two the same one."""

    def test_every_split_tree(self):
        kinds = [0, 1, 2, 3, 4]
        split = [one for one in all_trees(kinds) if len(one) == 4]
        self.assertEqual(len(split), 105)
        for inner in ([], [3], [12, 3], [28], [21], [7, 24]):
            numbers = []
            for begin in range(0, 105, 35):
                asked = [call for one in split[begin:begin + 35] for call in (sets(1, 31, one), rank(0, 1))]
                got = run(sets(0, 31, inner), count(0), *asked)
                many = got[1][0]
                numbers += [answer[0] for answer in got[3::2] if answer != [-3]]
            self.assertEqual(sorted(numbers), list(range(many)), inner)
            self.assertEqual(many, len([one for one in split if set(inner) <= set(one)]))


class Changed(unittest.TestCase):
    """C6 and its other side: a call that puts a tree puts it at its q alone."""

    def test_only_q_is_changed(self):
        fill = put_by_all()
        before = run(*fill, *whole_book())[len(fill):]
        for call in (read(15, "(1,2);"), sets(15, 6, []), under(0, 6, 15), common(1, 2, 15, [1, 4, 1]),
                     joint(15, [0, 2]), clock(6, 15, [1]), nth(0, 1, 15)):
            got = run(*fill, call, *whole_book())[len(fill):]
            changed = [at % 16 for at in range(32) if got[1 + at] != before[at]]
            self.assertEqual(changed, [15, 15], call)

    def test_trees_that_were_drawn_from_stand_as_they_were(self):
        # A tree that is put is not tied to the one it came from.
        got = run(read(0, "(1,2,3);"), joint(1, [0]), common(1, 2, 2, [0]), under(0, TOP, 3), nth(0, 1, 0),
                  text(1), text(2), text(3), nth(1, 2, 2), text(1), differ(0, 2), shows(0, 1), node(3, 14),
                  settle(0, 0, [1, 2, 3]), changes(1, [0, 0, 1], [1] * 64))
        star = [8] + list(b"(1,2,3);")
        self.assertEqual(got[5:], [star, star, star, [2], star, [2], [1], [3, 14, 0, 2, 4, 8],
                                   [0, 0, 14, 0, 0, 12, 0, 0], [1, 0]])


if __name__ == "__main__":
    unittest.main()
