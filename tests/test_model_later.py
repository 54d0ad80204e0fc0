"""All eighteen calls beside the second, slower telling of the document's words, on made-up lists of calls.

The calls 10 to 18 are told here, the ones before them in test_model.
"""

import functools
import itertools
import math
import unittest
from fractions import Fraction

from tests.helper import (TOP, answers, changes, clock, common, count, cut, joint, links, nth, rank, settle)
from tests.test_links import by_fractions
from tests.test_model import Maker, Model, by_sets, depth_of, nodes_of, number_of, parts_of, set_of


def blocks_of(trees, kinds):
    """The blocks of a set, two kinds at a time and link by link."""
    def are_bound(x, y):
        return any(x in clade and y in clade and not (tree[0] & kinds) <= clade for tree in trees for clade in tree[1])

    rest, blocks = set(kinds), []
    while rest:
        block, fresh = set(), {rest.pop()}
        while fresh:
            block |= fresh
            fresh = {y for y in rest if any(are_bound(x, y) for x in fresh)}
            rest -= fresh
        blocks.append(frozenset(block))
    return blocks


def found_of(trees, kinds):
    """The sets that are found within one that is found, each with its blocks."""
    if len(kinds) < 2:
        return {}
    blocks = blocks_of(trees, kinds)
    found = {kinds: blocks}
    if len(blocks) > 1:
        for block in blocks:
            found.update(found_of(trees, block))
    return found


def cheapest(tree, states, costs):
    """One sum that counts a giving's costs first and then its states, each clade's as one digit."""
    order = sorted(tree[1], key=number_of, reverse=True)
    weights = {clade: 8 ** (len(order) - 1 - at) for at, clade in enumerate(order)}
    whole = 8 ** len(order)
    known = {}

    def least(node, above):
        if len(node) == 1:
            own = states[min(node)]
            return 0 if own == above else costs[8 * above + own] * whole
        if (node, above) not in known:
            ways = []
            for own in range(8):
                step = 0 if above in (own, None) else costs[8 * above + own]
                inner = sum(least(part, own) for part in parts_of(tree, node))
                ways.append(step * whole + own * weights[node] + inner)
            known[node, above] = min(ways)
        return known[node, above]

    if not order:
        return [0]
    total = least(tree[0], None)
    return [total // whole] + [total % whole // weights[clade] % 8 for clade in order]


as_number = functools.cache(number_of)


class Spot:
    """A node while a split tree is put together."""

    def __init__(self, kinds):
        self.kinds = kinds
        self.above = None


def put_together(parts, digits):
    """The nodes there are once so many parts are put together as the digits say."""
    spots = [Spot(parts[0]), Spot(parts[1]), Spot(parts[0] | parts[1])]
    spots[0].above = spots[1].above = spots[2]
    for part, digit in zip(parts[2:], digits):
        partner = sorted(spots, key=lambda spot: as_number(spot.kinds), reverse=True)[digit]
        own, both = Spot(part), Spot(partner.kinds | part)
        both.above = partner.above
        own.above = partner.above = both
        further = both.above
        while further is not None:
            further.kinds = further.kinds | part
            further = further.above
        spots += [own, both]
    return {spot.kinds for spot in spots}


def widths_of(tree):
    """The tree's clades in order, each with the numbers that its digits have."""
    order = sorted(tree[1], key=number_of, reverse=True)
    return [(clade, [2 * i - 1 for i in range(2, len(parts_of(tree, clade)))]) for clade in order]


def how_many(tree):
    return math.prod(width for clade, widths in widths_of(tree) for width in widths)


def is_split(tree):
    return all(len(parts_of(tree, clade)) == 2 for clade in tree[1])


class LaterModel(Model):
    names = Model.names + ["common", "joint", "changes", "clock", "links", "count", "nth", "rank", "settle"]

    def places(self, call):
        if call[0] < 10:
            return super().places(call)
        if call[0] in (10, 11):
            return [call[3]] + call[5:] if call[0] == 10 else [call[1]] + call[3:]
        return [call[at] for at in {12: [1], 13: [2], 14: [], 15: [1], 16: [1, 3]}.get(call[0], [1, 2])]

    def asked(self, call):
        if call[0] < 10:
            return super().asked(call)
        if call[0] in (10, 11, 13):
            return self.places(call)[1:]
        return [call[1]] if call[0] == 16 else self.places(call)

    def common(self, a, b, q, length, *places):
        trees = [self.book[p] for p in places]
        if not trees or b == 0 or Fraction(a, b) < Fraction(1, 2) or len({tree[0] for tree in trees}) > 1:
            return [-3]
        every = set().union(*[tree[1] for tree in trees])
        often = [one for one in every if sum(one in tree[1] for tree in trees) > len(trees) * Fraction(a, b)]
        self.book[q] = by_sets(trees[0][0], often)
        return [len(self.book[q][1])]

    def joint(self, q, length, *places):
        trees = [self.book[p] for p in places]
        if not trees:
            return [-3]
        kinds = frozenset().union(*[tree[0] for tree in trees])
        found = found_of(trees, kinds)
        bars = [number_of(one) for one in found if len(found[one]) == 1]
        if bars:
            return [0, max(bars)]
        self.book[q] = by_sets(kinds, found)
        for tree in trees:
            shown = {one & tree[0] for one in nodes_of(self.book[q])}
            if not tree[1] <= shown:
                raise AssertionError("the joined tree does not show all")
        return [1]

    def changes(self, p, *rest):
        tree = self.book[p]
        states, costs = rest[1:rest[0] + 1], rest[rest[0] + 2:]
        if len(states) != len(tree[0]) or any(state > 7 for state in states) or len(costs) != 64:
            return [-3]
        return cheapest(tree, dict(zip(sorted(tree[0]), states)), costs)

    def clock(self, kinds, q, length, *distances):
        kinds = sorted(set_of(kinds))
        if not kinds or len(distances) != math.comb(len(kinds), 2):
            return [-3]
        apart = dict(zip(itertools.combinations(kinds, 2), distances))
        for x, y, z in itertools.combinations(kinds, 3):
            three = [apart[x, y], apart[x, z], apart[y, z]]
            if three.count(max(three)) < 2:
                return [0, x, y, z]
        near = [frozenset(y for y in kinds if y == x or apart[min(x, y), max(x, y)] <= h)
                for x in kinds for h in set(distances) | {0}]
        self.book[q] = by_sets(frozenset(kinds), near)
        return [1]

    def links(self, kinds, length, *distances):
        kinds = sorted(set_of(kinds))
        if not kinds or len(distances) != math.comb(len(kinds), 2):
            return [-3]
        return by_fractions(kinds, distances)

    def count(self, p):
        return [how_many(self.book[p])]

    def nth(self, p, k, q):
        tree = self.book[p]
        later = how_many(tree)
        if k >= later:
            return [-3]
        found = set()
        for clade, widths in widths_of(tree):
            digits = []
            for width in widths:
                later //= width
                digits.append(k // later)
                k %= later
            found |= put_together(parts_of(tree, clade), digits)
        self.book[q] = by_sets(tree[0], found)
        return [len(self.book[q][1])]

    def rank(self, p, q):
        tree, split = self.book[p], self.book[q]
        if tree[0] != split[0] or not is_split(split) or not tree[1] <= split[1]:
            return [-3]
        number = 0
        for clade, widths in widths_of(tree):
            parts, digits = parts_of(tree, clade), []
            for width in widths:
                before = frozenset().union(*parts[:len(digits) + 3])
                seen = {one & before for one in nodes_of(split)}
                fits = [digit for digit in range(width) if put_together(parts, digits + [digit]) <= seen]
                if len(fits) != 1:
                    raise AssertionError("a split tree has not just one number")
                digits += fits
                number = number * width + fits[0]
        return [number]

    def settle(self, p, q, length, *homes):
        genes, hosts = self.book[p], self.book[q]
        if not is_split(genes) or not is_split(hosts) or len(homes) != len(genes[0]) or not set(homes) <= hosts[0]:
            return [-3]
        home = dict(zip(sorted(genes[0]), homes))

        def its_node(part):
            return min((one for one in nodes_of(hosts) if {home[kind] for kind in part} <= one), key=len)

        told = []
        for clade in sorted(genes[1], key=number_of, reverse=True):
            node, inner = its_node(clade), [its_node(part) for part in parts_of(genes, clade)]
            doubled = node in inner
            deeper = [depth_of(hosts, one) - depth_of(hosts, node) for one in inner]
            told.append([number_of(node), int(doubled), sum(deeper) - (0 if doubled else 2)])
        return [sum(row[1] for row in told), sum(row[2] for row in told)] + [number for row in told for number in row]


class LaterMaker(Maker):
    """Makes calls up that fit the book more often than not."""

    def __init__(self, seed, model):
        super().__init__(seed)
        self.model = model
        self.kinds = self.kinds[:9]
        self.numbered = [0, 0]

    def some(self, least=0):
        kinds = super().some(least)
        return self.random.sample(self.kinds, len(self.kinds)) if self.random.random() < 0.5 else kinds

    def part(self, kinds):
        if len(kinds) > 1 and self.random.random() < 0.6:
            at = self.random.randint(1, len(kinds) - 1)
            return self.part(kinds[:at]), self.part(kinds[at:])
        return super().part(kinds)

    def size(self, p):
        """How many kinds the tree at a place has, or, now and then, some other number."""
        fitting = len(self.model.book[p][0]) if p in self.model.book else 3
        return self.random.choice([fitting] * 9 + [fitting + 1, max(0, fitting - 1)])

    def like(self, p):
        """A place whose tree has the same kinds as this one, if there is any."""
        tree = self.model.book.get(p)
        same = [q for q in self.model.book if tree is not None and self.model.book[q][0] == tree[0]]
        return self.random.choice(same or [p])

    def places_row(self):
        p = self.random.choice(sorted(self.model.book) or [0])
        if self.random.random() < 0.5:
            return [self.like(p) for time in range(self.random.randint(1, 4))]
        if self.random.random() < 0.6:
            return [self.random.choice(sorted(self.model.book) or [0]) for time in range(self.random.randint(1, 3))]
        return [self.place() for time in range(self.random.randint(0, 2))]

    def distances(self, kinds):
        """Distances that a clock's tree has, or all but a few of them, or any."""
        most = self.random.choice([1, 2, 9, 2 ** 32 - 1])
        pairs = list(itertools.combinations(sorted(kinds), 2))
        row = [(x ^ y).bit_length() for x, y in pairs]
        if self.random.random() < 0.5:
            row = [self.random.randint(0, most) for pair in pairs]
        elif row and self.random.random() < 0.5:
            row[self.random.randrange(len(row))] = self.random.randint(0, 9)
        if self.random.random() < 0.1:
            row = row + [1] if self.random.random() < 0.5 else row[1:]
        return row

    def costs(self):
        most = self.random.choice([0, 1, 2, 7, 2 ** 32 - 1])
        return [self.random.randint(0, most) for step in range(self.random.choice([64] * 9 + [63]))]

    def call(self):
        which = self.random.randint(1, 22)
        if which < 10 or which > 18:
            return super().call()
        p, q = self.place(), self.place()
        kinds = self.some()
        if which == 10:
            a, b = self.random.choice([(1, 2)] * 4 + [(2, 3), (3, 4), (1, 1), (0, 0), (1, 3), (TOP - 1, TOP), (TOP, 1)])
            return common(a, b, q, self.places_row())
        if which == 11:
            return joint(q, self.places_row())
        if which == 12:
            return changes(p, [self.random.choice([0, 1, 1, 2, 7] * 9 + [8, 255]) for kind in range(self.size(p))],
                           self.costs())
        if which == 13:
            return clock(number_of(kinds), q, self.distances(kinds))
        if which == 14:
            return links(number_of(kinds), self.distances(kinds))
        if which == 15:
            return count(p)
        if which == 16:
            many = how_many(self.model.book[p]) if p in self.model.book else 1
            self.numbered = [p, q]
            return nth(p, self.random.choice([self.random.randrange(many)] * 6 + [many - 1, many, 2 ** 384 - 1]), q)
        if which == 17:
            return rank(*self.random.choice([self.numbered, [p, self.like(p)]]))
        homes = sorted(self.model.book[q][0]) if q in self.model.book else [0]
        return settle(p, q, [self.random.choice(homes * 9 + [self.random.randint(0, 255)])
                             for kind in range(self.size(p))])


class BesideTheLaterModel(unittest.TestCase):
    def go_beside(self, maker, times):
        """Hold so many made-up calls against the model; give back what each call's answers began with."""
        calls, expected = [], []
        heads = {which: set() for which in range(1, 19)}
        for time in range(times):
            calls.append(maker.call())
            expected.append(maker.model.answer(calls[-1]))
            heads[calls[-1][0]].add(expected[-1][0])
        got = cut(answers([number for call in calls for number in call]))
        for call, answer, model_answer in zip(calls, got, expected, strict=True):
            self.assertEqual(answer, model_answer, call)
        return heads

    def test_many_lists_of_calls(self):
        heads = {which: set() for which in range(1, 19)}
        for seed in range(150):
            with self.subTest(seed=seed):
                for which, found in self.go_beside(LaterMaker(seed, LaterModel()), 100).items():
                    heads[which] |= found
        # Each call has been answered, and been refused in each way it can be.
        for which, some in ((10, {-1, -2, -3, 0, 1, 2, 3}), (11, {-1, -2, -3, 0, 1}), (12, {-1, -2, -3, 0, 1, 2}),
                            (13, {-1, -3, 0, 1}), (14, {-3, 0, 1, 2, 3, 4}), (15, {-1, -2, 1, 3, 9, 15}),
                            (16, {-1, -2, -3, 0, 1, 2, 3}), (17, {-1, -2, -3, 0, 1}),
                            (18, {-1, -2, -3, 0, 1, 2})):
            self.assertTrue(some <= heads[which], (which, heads[which]))

    def test_trees_of_many_kinds(self):
        for seed in range(12):
            with self.subTest(seed=seed):
                maker = LaterMaker(seed, LaterModel())
                maker.kinds = maker.random.sample(range(64), 22)
                self.go_beside(maker, 40)


if __name__ == "__main__":
    unittest.main()
