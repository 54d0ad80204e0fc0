"""Call 12, changes."""

import itertools
import random
import unittest

from tests.helper import TOP, chain_sets, changes, read, run, sets, text, told_text

MOST = 2 ** 32 - 1


def even(cost):
    """Costs that are the same from each state to each other."""
    return [0 if a == b else cost for a in range(8) for b in range(8)]


def costs_but(cost, **steps):
    """Even costs, but for some steps: to3from1=5 is what it costs to go from state 1 to state 3."""
    costs = even(cost)
    for step, own_cost in steps.items():
        costs[8 * int(step[-1]) + int(step[2])] = own_cost
    return costs


def by_all_givings(tree, states, costs):
    """The least sum and the first giving with it, by going through all givings.

    The tree is a dict of each clade's parts, from the greatest clade on; states are by single kinds.
    """
    best = None
    for giving in itertools.product(range(8), repeat=len(tree)):
        given = dict(zip(tree, giving))
        given.update(states)
        total = sum(costs[8 * given[clade] + given[part]] for clade in tree for part in tree[clade]
                    if given[clade] != given[part])
        if best is None or total < best[0]:
            best = [total] + list(giving)
    return best


class Changes(unittest.TestCase):
    def answers_for(self, words, states, costs, answer):
        got = run(read(0, words), changes(0, states, costs), text(0))
        self.assertEqual(got[1:], [answer, told_text(words)])

    def test_even_costs(self):
        self.answers_for("((1,2),3);", [0, 1, 1], even(1), [1, 1, 1])
        self.answers_for("((1,2),3);", [0, 1, 0], even(1), [1, 0, 0])
        self.answers_for("((1,2),3);", [4, 4, 4], even(7), [0, 4, 4])
        self.answers_for("((1,2),(3,4));", [2, 2, 5, 5], even(3), [3, 2, 5, 2])
        self.answers_for("((1,2),(3,4));", [5, 5, 2, 2], even(3), [3, 2, 2, 5])

    def test_states_are_of_the_kinds_rising(self):
        self.answers_for("((2,9),(40,63));", [1, 1, 6, 6], even(1), [1, 1, 6, 1])
        self.answers_for("((2,40),(9,63));", [1, 6, 1, 6], even(1), [1, 1, 6, 1])

    def test_costs_that_differ_by_direction(self):
        # From 0 to 1 costs 1, back 5: so the clade of both is given 0, though it costs at kind 2.
        costs = costs_but(9, to1from0=1, to0from1=5)
        self.answers_for("(1,2);", [0, 1], costs, [1, 0])
        self.answers_for("(1,2);", [1, 0], costs, [1, 0])
        costs = costs_but(9, to1from0=5, to0from1=1)
        self.answers_for("(1,2);", [0, 1], costs, [1, 1])

    def test_a_state_that_no_kind_has(self):
        # From 7 all is cheap, so both clades are given 7.
        costs = costs_but(9, to0from7=1, to1from7=1, to2from7=1)
        self.answers_for("((1,2),3);", [0, 1, 2], costs, [3, 7, 7])

    def test_a_way_over_two_steps_is_not_one_step(self):
        # Over state 3 it would cost 2, but a node has one step alone.
        costs = costs_but(100, to3from0=1, to1from3=1)
        self.answers_for("(1,2);", [0, 1], costs, [100, 0])
        # Where a clade lies between, each of the two steps has a node of its own.
        self.answers_for("((1,2),3);", [1, 1, 0], costs, [3, 0, 3])

    def test_costs_of_0(self):
        self.answers_for("((1,2),3);", [5, 6, 7], even(0), [0, 0, 0])
        costs = costs_but(4, to5from2=0, to6from2=0, to2from7=0)
        self.answers_for("((1,2),3);", [5, 6, 2], costs, [0, 2, 2])
        self.answers_for("((1,2),3);", [5, 6, 7], costs, [0, 7, 2])

    def test_a_state_to_itself_costs_nothing(self):
        costs = even(1)
        for state in range(8):
            costs[9 * state] = [MOST, 1, 0, 77][state % 4]
        self.answers_for("((1,2),3);", [4, 4, 4], costs, [0, 4, 4])
        self.answers_for("((1,2),3);", [4, 1, 1], costs, [1, 1, 1])
        self.answers_for("(1,2);", [0, 0], [MOST] * 64, [0, 0])

    def test_costs_as_great_as_can_be(self):
        self.answers_for("((1,2),3);", [1, 2, 3], even(MOST), [2 * MOST, 1, 1])
        states = [kind % 8 for kind in range(64)]
        got = run(sets(0, TOP, []), changes(0, states, even(MOST)))
        self.assertEqual(got[1], [56 * MOST, 0])
        costs = [MOST - 1 if b == 7 else MOST for a in range(8) for b in range(8)]
        got = run(sets(0, TOP, []), changes(0, states, costs))
        self.assertEqual(got[1], [56 * MOST - 8, 0])

    def test_a_tree_of_one_kind(self):
        for state in range(8):
            self.answers_for("9;", [state], even(5), [0])
            self.answers_for("9;", [state], [MOST] * 64, [0])

    def test_the_first_of_several_givings(self):
        self.answers_for("(1,2);", [6, 3], even(1), [1, 3])
        self.answers_for("(1,2,3);", [6, 3, 5], even(1), [2, 3])
        # 0 0, 0 1 and 1 1 cost the same.
        self.answers_for("((1,2),3);", [0, 1, 0], costs_but(1, to1from0=0), [0, 0, 0])
        self.answers_for("((1,2),3);", [1, 1, 0], costs_but(1, to1from0=0), [0, 0, 0])

    def test_the_greater_clade_decides_first(self):
        # Given 1 and 0, or 0 and 1: the whole comes first, then the greater of the two others.
        self.answers_for("((1,2),(3,4));", [0, 1, 0, 1], even(1), [2, 0, 0, 0])
        self.answers_for("((1,4),(2,3));", [1, 0, 0, 1], even(1), [1, 0, 1, 0])
        # A clade is told by its number, not by its least kind or how deep it lies.
        self.answers_for("((0,63),((1,2),3));", [2, 5, 5, 5, 2], even(1), [1, 2, 2, 5, 5])

    def test_more_than_two_parts(self):
        self.answers_for("(1,2,3,4,5);", [3, 1, 3, 1, 1], even(2), [4, 1])
        self.answers_for("(1,2,3,4);", [3, 1, 3, 1], even(2), [4, 1])
        self.answers_for("((1,2,3),(4,5,6),7);", [0, 0, 1, 1, 1, 0, 1], even(1), [3, 1, 1, 0])

    def test_64_kinds(self):
        chain = chain_sets(list(range(64)))
        states = [0] * 32 + [1] * 32
        got = run(sets(0, TOP, chain), changes(0, states, even(3)))
        self.assertEqual(got[1], [3] + [1] * 32 + [0] * 31)

    def test_p_may_stand_anywhere(self):
        got = run(read(15, "(1,2);"), changes(15, [1, 2], even(1)))
        self.assertEqual(got[1], [1, 1])

    def test_minus_3(self):
        good = even(1)
        for call in (changes(0, [0, 1], good), changes(0, [0, 1, 2, 3], good), changes(0, [], good),
                     changes(0, [0] * 256, good), changes(0, [0, 8, 0], good), changes(0, [8, 0, 0], good),
                     changes(0, [0, 0, 255], good), changes(0, [0, 1, 2], good[:63]), changes(0, [0, 1, 2], []),
                     changes(0, [0, 1, 2], good[:1]), changes(0, [8], [])):
            got = run(read(0, "((1,2),3);"), call, text(0))
            self.assertEqual(got[1:], [[-3], told_text("((1,2),3);")], call)

    def test_minus_3_of_one_kind(self):
        for call in (changes(0, [], even(1)), changes(0, [0, 0], even(1)), changes(0, [8], even(1)),
                     changes(0, [0], even(1)[:63])):
            self.assertEqual(run(read(0, "7;"), call)[1], [-3], call)


class BesideAllGivings(unittest.TestCase):
    trees = (
        {0b111: [0b001, 0b110], 0b110: [0b010, 0b100]},
        {0b1111: [0b0101, 0b1010], 0b1010: [0b0010, 0b1000], 0b0101: [0b0001, 0b0100]},
        {0b11111: [0b00011, 0b01100, 0b10000], 0b01100: [0b00100, 0b01000], 0b00011: [0b00001, 0b00010]},
        {0b1111: [0b0111, 0b1000], 0b0111: [0b0011, 0b0100], 0b0011: [0b0001, 0b0010]},
        {0b111111: [0b111000, 0b000111], 0b111000: [0b100000, 0b010000, 0b001000],
         0b000111: [0b000001, 0b000110], 0b000110: [0b000010, 0b000100]},
    )

    def test_made_up_costs(self):
        chance = random.Random(12)
        for time in range(40):
            tree = self.trees[4] if time % 10 == 0 else chance.choice(self.trees[:4])
            kinds = max(tree)
            singles = [2 ** kind for kind in range(kinds.bit_length())]
            most = chance.choice([1, 2, 5, 60, MOST])
            costs = [chance.randint(0, most) for step in range(64)]
            states = [chance.randint(0, 7) for single in singles]
            answer = by_all_givings(tree, dict(zip(singles, states)), costs)
            got = run(sets(3, kinds, list(tree)), changes(3, states, costs))
            self.assertEqual(got[1], answer, (tree, states, costs))


if __name__ == "__main__":
    unittest.main()
