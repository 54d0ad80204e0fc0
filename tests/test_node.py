"""Call 6, node."""

import unittest

from tests.helper import TOP, kinds_of, node, read, run, sets, text, told_text


class Node(unittest.TestCase):
    words = "((0,(2,5),3),(1,4),6);"

    def node(self, kinds, expected):
        self.assertEqual(run(read(7, self.words), node(7, kinds))[1], expected)

    def test_whole(self):
        parts = [kinds_of(0, 2, 3, 5), kinds_of(1, 4), kinds_of(6)]
        for kinds in (127, kinds_of(0, 1), kinds_of(5, 6), kinds_of(1, 4, 6)):
            self.node(kinds, [3, 127, 0] + parts)

    def test_clades(self):
        self.node(kinds_of(1, 4), [2, kinds_of(1, 4), 1, 2, 16])
        self.node(kinds_of(0, 2, 3, 5), [3, kinds_of(0, 2, 3, 5), 1, 1, kinds_of(2, 5), 8])
        self.node(kinds_of(2, 5), [2, kinds_of(2, 5), 2, 4, 32])

    def test_sets_that_are_no_node(self):
        self.node(kinds_of(0, 3), [3, kinds_of(0, 2, 3, 5), 1, 1, kinds_of(2, 5), 8])
        self.node(kinds_of(2, 3), [3, kinds_of(0, 2, 3, 5), 1, 1, kinds_of(2, 5), 8])

    def test_single_kinds(self):
        self.node(kinds_of(6), [0, 64, 1])
        self.node(kinds_of(0), [0, 1, 2])
        self.node(kinds_of(1), [0, 2, 2])
        self.node(kinds_of(2), [0, 4, 3])
        self.node(kinds_of(5), [0, 32, 3])

    def test_parts_are_in_the_order_of_their_least_kinds(self):
        got = run(read(0, "(9,(3,8),(1,63),(2,4),5);"), node(0, kinds_of(9, 5)))
        self.assertEqual(got[1][2:], [0, kinds_of(1, 63), kinds_of(2, 4), kinds_of(3, 8), 32, 512])

    def test_none_or_not_within(self):
        self.node(0, [-3])
        self.node(128, [-3])
        self.node(129, [-3])
        self.node(TOP, [-3])

    def test_one_kind(self):
        got = run(read(0, "4;"), node(0, 16), node(0, 0), node(0, 8), node(0, 24))
        self.assertEqual(got[1:], [[0, 16, 0], [-3], [-3], [-3]])

    def test_depth_of_63(self):
        chain = [2 ** n - 1 for n in range(65)]
        got = run(sets(0, TOP, chain), node(0, 1), node(0, 3), node(0, 2 ** 63), node(0, 2 ** 63 + 1))
        self.assertEqual(got[1:], [[0, 1, 63], [2, 3, 62, 1, 2], [0, 2 ** 63, 1],
                                   [2, TOP, 0, 2 ** 63 - 1, 2 ** 63]])

    def test_64_parts(self):
        got = run(sets(0, TOP, []), node(0, 3))
        self.assertEqual(got[1], [64, TOP, 0] + [2 ** n for n in range(64)])

    def test_the_tree_stays(self):
        got = run(read(7, self.words), node(7, 3), node(7, 0), text(7))
        self.assertEqual(got[3], told_text(self.words))


if __name__ == "__main__":
    unittest.main()
