"""Distances of kinds: the tree of a clock, and the linking by averages."""

from cladebook.clades import tree_by_sets
from cladebook.kinds import kind_in, singles_of


def count_pairs(kinds):
    """How many two kinds there are in a set."""
    size = len(singles_of(kinds))
    return size * (size - 1) // 2


def distance_table(kinds, distances):
    """A row for each kind, rising, with its distance to each; to itself 0."""
    size = len(singles_of(kinds))
    table = [[0] * size for row in range(size)]
    at = 0
    for i in range(size):
        for j in range(i + 1, size):
            table[i][j] = distances[at]
            table[j][i] = distances[at]
            at += 1
    return table


def clock_bar(kinds, distances):
    """The first three kinds that bar a clock's tree, as [x, y, z]; [] if none do."""
    table = distance_table(kinds, distances)
    barring = first_barring(table)
    singles = singles_of(kinds)
    return [kind_in(singles[i]) for i in barring]


def first_barring(table):
    """Which three are the first whose greatest distance occurs but once; [] if none are."""
    size = len(table)
    for i in range(size):
        for j in range(i + 1, size):
            for k in range(j + 1, size):
                three = sorted([table[i][j], table[i][k], table[j][k]])
                if three[1] != three[2]:
                    return [i, j, k]
    return []


def clock_tree(kinds, distances):
    """The clock's tree of these kinds, which nothing bars."""
    singles = singles_of(kinds)
    near = []
    for row in distance_table(kinds, distances):
        # Between two distances that occur, a number takes in no more kinds than the lesser one.
        for most in sorted(set(row)):
            near.append(sum([singles[k] for k in range(len(row)) if row[k] <= most]))
    return tree_by_sets(kinds, near)


class Groups:
    """The groups that linking has come to.

    kinds: their kinds, in the order of their least kinds.
    sizes: how many kinds each has.
    sums: a row for each, with the sum of it and each other group; what stands for it and itself means nothing.
    """

    def __init__(self, kinds, sizes, sums):
        self.kinds = kinds
        self.sizes = sizes
        self.sums = sums


def link_by_averages(kinds, distances):
    """The merges in order, each as [group, other, sum, how many distances]."""
    singles = singles_of(kinds)
    groups = Groups(singles, [1] * len(singles), distance_table(kinds, distances))
    merges = []
    while len(groups.kinds) > 1:
        nearest = nearest_two(groups)
        i = nearest[0]
        j = nearest[1]
        merges.append([groups.kinds[i], groups.kinds[j], groups.sums[i][j], groups.sizes[i] * groups.sizes[j]])
        merge_groups(groups, i, j)
    return merges


def nearest_two(groups):
    """Which two groups are to be merged, as [i, j]."""
    # The groups stand by their least kinds, so the first of several comes first here.
    nearest = [0, 1]
    least = groups.sums[0][1]
    count = groups.sizes[0] * groups.sizes[1]
    for i in range(len(groups.kinds)):
        for j in range(i + 1, len(groups.kinds)):
            pairs = groups.sizes[i] * groups.sizes[j]
            if groups.sums[i][j] * count < least * pairs:
                nearest = [i, j]
                least = groups.sums[i][j]
                count = pairs
    return nearest


def merge_groups(groups, i, j):
    """Put group j to group i, which has the lesser least kind and so keeps its index."""
    size = len(groups.kinds)
    for k in range(size):
        groups.sums[i][k] += groups.sums[j][k]
        groups.sums[k][i] = groups.sums[i][k]
    groups.kinds[i] = groups.kinds[i] | groups.kinds[j]
    groups.sizes[i] += groups.sizes[j]
    groups.kinds.pop(j)
    groups.sizes.pop(j)
    groups.sums.pop(j)
    groups.sums = [row[:j] + row[j + 1:] for row in groups.sums]
