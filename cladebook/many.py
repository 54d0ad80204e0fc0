"""Many trees at once: what is common to them, and the tree that joins them."""

from cladebook.clades import tree_by_sets
from cladebook.kinds import has_several, lies_within, singles_of


def common_tree(trees, a, b):
    """The tree of those clades that stand in more than a / b of the trees, which have the same kinds."""
    counts = {}
    for tree in trees:
        for clade in tree.clades:
            counts[clade] = counts.get(clade, 0) + 1
    often = [clade for clade in counts if counts[clade] * b > len(trees) * a]
    return tree_by_sets(trees[0].kinds, often)


class Joining:
    """What joining trees comes to.

    kinds: all kinds that any of the trees has.
    found: the sets that are found.
    barring: those of them that are one block; if there are none, the others make up the joined tree.
    """

    def __init__(self, kinds):
        self.kinds = kinds
        self.found = [kinds] if has_several(kinds) else []
        self.barring = []


def join_trees(trees):
    """Go through all that is found when these trees are joined."""
    kinds = 0
    for tree in trees:
        kinds = kinds | tree.kinds
    joining = Joining(kinds)
    at = 0
    while at < len(joining.found):
        split_found(joining, trees, joining.found[at])
        at += 1
    return joining


def split_found(joining, trees, found):
    """Find the blocks of a set that is found, or note that it is one block."""
    blocks = blocks_of(trees, found)
    if len(blocks) == 1:
        joining.barring.append(found)
    else:
        joining.found.extend([block for block in blocks if has_several(block)])


def blocks_of(trees, kinds):
    """The blocks of a set of kinds, in no order that means anything."""
    blocks = singles_of(kinds)
    for tree in trees:
        for bound in bound_sets(tree, kinds):
            blocks = link_blocks(blocks, bound)
    return blocks


def bound_sets(tree, kinds):
    """The sets whose kinds are bound to one another by one tree; of those within others none is told."""
    whole = tree.kinds & kinds
    rest = whole
    bound = []
    for clade in tree.clades:
        held = clade & kinds
        # The falling order comes to a clade ahead of all within it, so what is taken
        # off the rest leaves nothing of them.
        if held != whole and has_several(held) and lies_within(held, rest):
            bound.append(held)
            rest = rest - held
    return bound


def link_blocks(blocks, bound):
    """The blocks, with all of those that have a kind of the bound set made one."""
    linked = bound
    apart = []
    for block in blocks:
        if (block & bound) == 0:
            apart.append(block)
        else:
            linked = linked | block
    return apart + [linked]
