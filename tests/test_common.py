"""Call 10, common."""

import unittest

from tests.helper import TOP, chain_sets, clades, common, kinds_of, read, run, sets, text, told_text


class Common(unittest.TestCase):
    def common_text(self, words, a, b, places=None):
        """The text of what's common to trees of these texts, which stand at the places from 0 on."""
        places = list(range(len(words))) if places is None else places
        got = run(*[read(p, one) for p, one in enumerate(words)], common(a, b, 15, places), clades(15), text(15))
        answered, told, signs = got[-3:]
        self.assertEqual(answered, told[:1])
        return "".join(map(chr, signs[1:]))

    def test_more_than_half(self):
        words = ["((1,2),3,4);", "((1,2),(3,4));", "((1,3),(2,4));"]
        self.assertEqual(self.common_text(words, 1, 2), "((1,2),3,4);")
        self.assertEqual(self.common_text(words[1:], 1, 2), "(1,2,3,4);")

    def test_clades_of_several_trees(self):
        words = ["(((0,1),2),(3,4));", "(((0,1),2),3,4);", "((0,1),2,(3,4));", "(0,1,2,(3,4));"]
        self.assertEqual(self.common_text(words, 1, 2), "((0,1),2,(3,4));")
        self.assertEqual(self.common_text(words[:3], 1, 2), "(((0,1),2),(3,4));")
        self.assertEqual(self.common_text(words[:3], 2, 3), "((0,1),2,3,4);")

    def test_just_as_many_is_not_common(self):
        bare, bound = "(1,2,3);", "((1,2),3);"
        self.assertEqual(self.common_text([bound, bare], 1, 2), bare)
        self.assertEqual(self.common_text([bound, bound, bare], 2, 3), bare)
        self.assertEqual(self.common_text([bound, bound, bare], 200, 300), bare)
        self.assertEqual(self.common_text([bound, bound, bare], 199, 300), bound)
        self.assertEqual(self.common_text([bound, bound, bound, bare], 3, 4), bare)
        self.assertEqual(self.common_text([bound, bound, bound, bare], 2, 3), bound)

    def test_a_place_that_stands_twice(self):
        words = ["((1,2),3);", "(1,(2,3));"]
        self.assertEqual(self.common_text(words, 1, 2, [0, 1]), "(1,2,3);")
        self.assertEqual(self.common_text(words, 1, 2, [0, 1, 0]), "((1,2),3);")
        self.assertEqual(self.common_text(words, 1, 2, [1, 1, 0]), "(1,(2,3));")
        self.assertEqual(self.common_text(words, 1, 2, [1, 1, 0, 0]), "(1,2,3);")
        self.assertEqual(self.common_text(words, 32, 64, [0] * 33 + [1] * 31), "((1,2),3);")

    def test_a_and_b_as_great_as_can_be(self):
        words = ["((1,2),3);", "(1,(2,3));"]
        self.assertEqual(self.common_text(words, TOP, TOP, [0]), "(1,2,3);")
        self.assertEqual(self.common_text(words, TOP - 1, TOP, [0] * 64), "((1,2),3);")
        self.assertEqual(self.common_text(words, TOP - 1, TOP, [0] * 63 + [1]), "(1,2,3);")
        self.assertEqual(self.common_text(words, 2 ** 63, TOP, [0] * 33 + [1] * 31), "((1,2),3);")
        self.assertEqual(self.common_text(words, 2 ** 63, TOP, [0] * 32 + [1] * 32), "(1,2,3);")
        self.assertEqual(self.common_text(words, 2 ** 63 - 1, TOP - 1, [0] * 33 + [1] * 31), "((1,2),3);")
        # 33 of 64 is just as many: a / b is 33 / 64.
        self.assertEqual(self.common_text(words, 33 * 2 ** 57, 2 ** 63, [0] * 33 + [1] * 31), "(1,2,3);")
        self.assertEqual(self.common_text(words, 33 * 2 ** 57 - 1, 2 ** 63, [0] * 33 + [1] * 31), "((1,2),3);")

    def test_a_not_less_than_b(self):
        for a, b in ((1, 1), (2, 1), (TOP, 1), (TOP, TOP), (TOP, TOP - 1)):
            self.assertEqual(self.common_text(["((1,2),3);"] * 3, a, b), "(1,2,3);")

    def test_one_tree(self):
        self.assertEqual(self.common_text(["((1,(2,5)),3);"], 1, 2), "((1,(2,5)),3);")
        self.assertEqual(self.common_text(["((1,(2,5)),3);"], 99, 100), "((1,(2,5)),3);")

    def test_trees_of_one_kind(self):
        self.assertEqual(self.common_text(["7;", "7;"], 1, 2), "7;")
        self.assertEqual(self.common_text(["7;"], 1, 1), "7;")

    def test_64_kinds(self):
        rising = chain_sets(list(range(64)))
        other = rising[:40] + [kinds_of(*range(44, 64))]
        got = run(sets(0, TOP, rising), sets(1, TOP, other), common(1, 2, 2, [0, 1]), clades(2),
                  common(1, 2, 2, [0, 1, 1]), clades(2))
        self.assertEqual(got[2:4], [[41], [41, TOP, TOP] + rising[:40][::-1]])
        falling = sorted(other + [TOP], reverse=True)
        self.assertEqual(got[4:], [[42], [42, TOP] + falling])

    def test_q_is_one_of_the_places(self):
        got = run(read(0, "((1,2),3,4);"), read(1, "((1,2),(3,4));"), common(1, 2, 1, [0, 1]), text(1), text(0))
        self.assertEqual(got[2:], [[2], told_text("((1,2),3,4);"), told_text("((1,2),3,4);")])

    def test_q_takes_the_place_of_what_was_there(self):
        got = run(read(0, "(1,2);"), read(4, "((6,7),9);"), common(1, 2, 4, [0]), clades(4))
        self.assertEqual(got[2:], [[1], [1, 6, 6]])

    def test_minus_3(self):
        fill = [read(0, "((1,2),3);"), read(1, "((1,2),4);"), read(2, "(1,2);"), read(3, "5;")]
        for call in (common(1, 2, 0, []), common(0, 0, 0, []), common(1, 0, 0, [0]), common(TOP, 0, 0, [0]),
                     common(0, 0, 0, [0]), common(0, 1, 0, [0]), common(1, 3, 0, [0]), common(49, 99, 0, [0]),
                     common(2 ** 63 - 1, TOP, 0, [0]), common(0, TOP, 0, [0]), common(1, 2, 0, [0, 1]),
                     common(1, 2, 0, [0, 0, 0, 2]), common(1, 2, 0, [2, 0]), common(1, 2, 0, [3, 0]),
                     common(1, 2, 9, [0, 1])):
            got = run(*fill, call, text(0), text(1), text(9))
            self.assertEqual(got[4:], [[-3], told_text("((1,2),3);"), told_text("((1,2),4);"), [-2]], call)

    def test_2_a_just_b(self):
        self.assertEqual(self.common_text(["((1,2),3);"], 50, 100), "((1,2),3);")
        self.assertEqual(self.common_text(["((1,2),3);"], 50, 99), "((1,2),3);")


if __name__ == "__main__":
    unittest.main()
