"""States of kinds, and the cheapest giving of states to a tree's clades."""

from cladebook.clades import parts_of
from cladebook.kinds import singles_of

STATE_COUNT = 8


def cheapest_giving(tree, states, costs):
    """The least sum, then the states of the clades in order; the states handed in are of the kinds, rising."""
    if tree.clades == []:
        return [0]
    inner = inner_sums(tree, states, costs)
    given = []
    above = {}
    for clade in tree.clades:
        # What is above a clade is greater, so it has been given its state; and what lies beside the clade costs
        # the same whatever is given here. So the least of the cheapest states is that of the first giving.
        sums = inner[clade]
        if clade in above:
            sums = sums_from(above[clade], sums, costs)
        state = sums.index(min(sums))
        given.append(state)
        for part in parts_of(tree, clade):
            above[part] = state
    return [min(inner[tree.kinds])] + given


def inner_sums(tree, states, costs):
    """Of each clade the least sum of all that lies in it, for each state of its own."""
    entry = single_sums(tree, states, costs)
    inner = {}
    # Rising, so that the parts of a clade come ahead of it.
    for clade in reversed(tree.clades):
        parts = parts_of(tree, clade)
        inner[clade] = [sum([entry[part][state] for part in parts]) for state in range(STATE_COUNT)]
        entry[clade] = [min(sums_from(state, inner[clade], costs)) for state in range(STATE_COUNT)]
    return inner


def single_sums(tree, states, costs):
    """Of each single kind what it costs, for each state of what is above it."""
    entry = {}
    singles = singles_of(tree.kinds)
    for k in range(len(singles)):
        entry[singles[k]] = [step_cost(state, states[k], costs) for state in range(STATE_COUNT)]
    return entry


def sums_from(state, sums, costs):
    """What a node costs with all that lies in it, for each state of its own, if this state is above it."""
    return [step_cost(state, own, costs) + sums[own] for own in range(STATE_COUNT)]


def step_cost(state, own, costs):
    """What it costs to go from a state to a node's own."""
    return 0 if state == own else costs[STATE_COUNT * state + own]
