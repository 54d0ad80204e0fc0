"""Call 18, settle."""

import random
import unittest

from tests.helper import TOP, chain_sets, kinds_of, nth, read, run, sets, settle, text, told_text


def by_words(genes, hosts, homes):
    """What settle answers, for trees that are nested pairs of kinds; homes by the genes' kinds."""
    def kinds_in(part):
        return {part} if isinstance(part, int) else kinds_in(part[0]) | kinds_in(part[1])

    def nodes_in(part, depth):
        deeper = [] if isinstance(part, int) else nodes_in(part[0], depth + 1) + nodes_in(part[1], depth + 1)
        return [(kinds_in(part), depth)] + deeper

    def its_node(part):
        lived = {homes[kind] for kind in kinds_in(part)}
        return min((node for node in nodes_in(hosts, 0) if lived <= node[0]), key=lambda node: len(node[0]))

    told = {}

    def settle_part(part):
        if isinstance(part, int):
            return
        node, depth = its_node(part)
        inner = [its_node(one) for one in part]
        doubled = int(any(one[0] == node for one in inner))
        losses = sum(one[1] - depth - (0 if doubled else 1) for one in inner)
        told[kinds_of(*kinds_in(part))] = [kinds_of(*node), doubled, losses]
        settle_part(part[0])
        settle_part(part[1])

    settle_part(genes)
    rows = [told[clade] for clade in sorted(told, reverse=True)]
    return [sum(row[1] for row in rows), sum(row[2] for row in rows)] + [number for row in rows for number in row]


def made_up(chance, kinds):
    """A split tree of these kinds as nested pairs."""
    if len(kinds) == 1:
        return kinds[0]
    at = chance.randint(1, len(kinds) - 1)
    return made_up(chance, kinds[:at]), made_up(chance, kinds[at:])


def written(part):
    return str(part) if isinstance(part, int) else f"({written(part[0])},{written(part[1])})"


class Settle(unittest.TestCase):
    def answers_for(self, genes, hosts, homes, *answer):
        got = run(read(2, genes), read(7, hosts), settle(2, 7, homes), text(2), text(7))
        self.assertEqual(got[2:], [list(answer), told_text(genes), told_text(hosts)])

    def test_genes_like_their_hosts(self):
        self.answers_for("((10,11),12);", "((0,1),2);", [0, 1, 2], 0, 0, 7, 0, 0, 3, 0, 0)

    def test_doubled(self):
        # 11 and 12 live in 1 and 2, so their node is the whole, as that of all three.
        self.answers_for("(10,(11,12));", "((0,1),2);", [0, 1, 2], 1, 3, 7, 1, 2, 7, 0, 1)

    def test_a_doubled_clade_of_two_kinds(self):
        self.answers_for("(10,11);", "((0,1),2);", [1, 1], 1, 0, 2, 1, 0)
        self.answers_for("(10,11);", "((0,1),2);", [0, 1], 0, 0, 3, 0, 0)

    def test_doubled_like_both_parts(self):
        self.answers_for("((1,2),(3,4));", "(5,6);", [5, 6, 5, 6], 1, 0, 96, 1, 0, 96, 0, 0, 96, 0, 0)

    def test_losses_of_several_levels(self):
        hosts = "((((0,1),2),3),4);"
        # 0 is four deep, the whole not: three are lost, and none beside 4.
        self.answers_for("(10,11);", hosts, [0, 4], 0, 3, 31, 0, 3)
        self.answers_for("(10,11);", hosts, [0, 3], 0, 2, 15, 0, 2)
        self.answers_for("(10,11);", hosts, [2, 3], 0, 1, 15, 0, 1)
        # The whole is doubled, as 10 and 12 have it already; 11 lives in 1, four deep.
        self.answers_for("((10,12),11);", hosts, [0, 1, 4], 1, 7, 31, 1, 4, 31, 0, 3)

    def test_losses_at_both_parts(self):
        hosts = "(((0,1),2),((3,4),5));"
        self.answers_for("(10,11);", hosts, [0, 3], 0, 4, 63, 0, 4)
        self.answers_for("(10,11);", hosts, [1, 5], 0, 3, 63, 0, 3)

    def test_homes_are_of_the_genes_kinds_rising(self):
        self.answers_for("((1,63),20);", "((0,1),2);", [0, 2, 1], 0, 0, 7, 0, 0, 3, 0, 0)

    def test_clades_in_order(self):
        self.answers_for("((1,2),(3,4));", "((0,5),(6,7));", [0, 5, 6, 6], 1, 1,
                         kinds_of(0, 5, 6, 7), 0, 1, kinds_of(6), 1, 0, kinds_of(0, 5), 0, 0)
        # The greater of the two inner clades is the one with 9, though 1 is the least kind.
        self.answers_for("((1,9),(2,3));", "((0,5),(6,7));", [0, 6, 6, 5], 1, 1,
                         kinds_of(0, 5, 6, 7), 0, 1, kinds_of(0, 5), 0, 0, kinds_of(6), 1, 0)

    def test_homes_that_are_all_one_kind(self):
        self.answers_for("(((1,2),3),4);", "((0,5),7);", [5] * 4, 3, 0, 32, 1, 0, 32, 1, 0, 32, 1, 0)

    def test_hosts_of_one_kind(self):
        self.answers_for("((1,2),3);", "63;", [63] * 3, 2, 0, 2 ** 63, 1, 0, 2 ** 63, 1, 0)
        self.answers_for("8;", "63;", [63], 0, 0)

    def test_genes_of_one_kind(self):
        for home in (0, 5, 7):
            self.answers_for("20;", "((0,5),7);", [home], 0, 0)

    def test_a_tree_in_itself(self):
        got = run(read(3, "((0,1),(2,3));"), settle(3, 3, [0, 1, 2, 3]), settle(3, 3, [0, 2, 1, 3]))
        self.assertEqual(got[1:], [[0, 0, 15, 0, 0, 12, 0, 0, 3, 0, 0], [1, 4, 15, 1, 0, 15, 0, 2, 15, 0, 2]])

    def test_64_kinds(self):
        chain = chain_sets(list(range(64)))
        got = run(sets(0, TOP, chain), settle(0, 0, list(range(64))), settle(0, 0, list(range(63, -1, -1))),
                  settle(0, 0, [0] * 64))
        self.assertEqual(got[1][:2], [0, 0])
        self.assertEqual(got[1][2:], [number for clade in chain[::-1] for number in (clade, 0, 0)])
        # Turned round, all clades have the home 63 and so the whole as their node; kind n lives in 63 - n. That is
        # 1 deep for kind 0, and n + 1 for all but the last, which is as deep as the one ahead of it.
        depths = [n + 1 for n in range(63)] + [63]
        losses = [depths[n] for n in range(63, 1, -1)] + [depths[0] - 1 + depths[1] - 1]
        self.assertEqual(got[2][:2], [62, sum(losses)])
        self.assertEqual(got[2][2:], [number for n in range(62) for number in (TOP, 1, losses[n])]
                         + [TOP, 0, losses[62]])
        self.assertEqual(got[3], [63, 0] + [1, 1, 0] * 63)

    def test_minus_3(self):
        fill = [read(0, "((1,2),3);"), read(1, "((4,5),63);"), read(2, "(1,2,3);"), read(3, "((4,5,6),7);"),
                read(4, "9;")]
        for call in (settle(2, 1, [4, 5, 63]), settle(0, 2, [1, 2, 3]), settle(2, 2, [1, 2, 3]),
                     settle(3, 1, [4, 4, 4, 4]), settle(0, 3, [4, 5, 6]), settle(4, 3, [4]),
                     settle(0, 1, [4, 5]), settle(0, 1, [4, 5, 63, 63]), settle(0, 1, []),
                     settle(0, 1, [4] * 256), settle(4, 1, []), settle(4, 1, [4, 4]),
                     settle(0, 1, [4, 5, 6]), settle(0, 1, [0, 5, 63]), settle(0, 1, [4, 64, 63]),
                     settle(0, 1, [4, 5, 255]), settle(0, 1, [68, 5, 63]), settle(4, 1, [64]), settle(4, 4, [8])):
            got = run(*fill, call, text(0), text(1))
            self.assertEqual(got[5:], [[-3], told_text("((1,2),3);"), told_text("((4,5),63);")], call)

    def test_made_up_trees(self):
        chance = random.Random(18)
        for time in range(120):
            sizes = [chance.randint(1, 9), chance.randint(1, 12)]
            lived = chance.sample(range(64), sizes[0])
            kinds = chance.sample(range(64), sizes[1])
            hosts, genes = made_up(chance, lived), made_up(chance, kinds)
            homes = {kind: chance.choice(lived) for kind in kinds}
            row = [homes[kind] for kind in sorted(kinds)]
            got = run(read(0, written(genes) + ";"), read(1, written(hosts) + ";"), settle(0, 1, row))
            self.assertEqual(got[2], by_words(genes, hosts, homes), (genes, hosts, homes))

    def test_split_trees_that_were_numbered(self):
        got = run(sets(0, 15, []), sets(1, 15, []), nth(0, 1, 0), nth(1, 13, 1), settle(0, 1, [0, 1, 2, 3]))
        # ((0,1),(2,3)) in ((0,2),(1,3)): both inner clades have the whole as their node.
        self.assertEqual(got[4], [1, 4, 15, 1, 0, 15, 0, 2, 15, 0, 2])


if __name__ == "__main__":
    unittest.main()
