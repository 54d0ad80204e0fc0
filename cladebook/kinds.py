"""Sets of kinds: each is a whole number, the sum of 2^i of its kinds i."""

KIND_COUNT = 64


def lies_within(inner, outer):
    """Whether the outer set has all kinds of the inner one."""
    return (inner & outer) == inner


def do_cross(one, other):
    """Whether two sets have a kind in common and neither lies within the other."""
    return (one & other) != 0 and not lies_within(one, other) and not lies_within(other, one)


def has_several(kinds):
    """Whether a set has two kinds or more."""
    return (kinds & (kinds - 1)) != 0


def least_single(kinds):
    """The set of the least kind alone; of no kinds it is none."""
    return kinds & -kinds


def singles_of(kinds):
    """The sets of one kind that make up a set, rising."""
    singles = []
    rest = kinds
    while rest != 0:
        single = least_single(rest)
        singles.append(single)
        rest = rest - single
    return singles


def kind_in(single):
    """The number of the kind that a set of one kind has."""
    return single.bit_length() - 1


def has_kind(kinds, number):
    """Whether the kind of this number is in a set; numbers above all kinds are in none."""
    return ((kinds >> number) & 1) == 1


def first_crossing(sets):
    """Which two of the sets are the first that cross, as [i, j]; [] if no two do."""
    for i in range(len(sets)):
        for j in range(i + 1, len(sets)):
            if do_cross(sets[i], sets[j]):
                return [i, j]
    return []
