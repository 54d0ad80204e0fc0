"""A tree is its kinds and its clades; what can be told of it by these."""

from cladebook.kinds import has_several, least_single, lies_within, singles_of


class Tree:
    """A tree of these kinds, with its clades in falling order; it is never changed once it is made."""

    def __init__(self, kinds, clades):
        self.kinds = kinds
        self.clades = clades


def tree_by_sets(kinds, sets):
    """The tree of these kinds by these sets, which lie within them and do not cross."""
    found = {}
    for one in [kinds] + sets:
        if has_several(one):
            found[one] = True
    return Tree(kinds, sorted(found, reverse=True))


def parts_of(tree, node):
    """The parts of a node in the order of their least kinds; a single kind has none."""
    if not has_several(node):
        return []
    parts = []
    rest = node
    for clade in tree.clades:
        # A set is greater than all that lie within it, so the falling order
        # comes to each part ahead of the clades in it, and takes those away with it.
        if clade != node and lies_within(clade, rest):
            parts.append(clade)
            rest = rest - clade
    parts.extend(singles_of(rest))
    return sorted(parts, key=least_single)


def least_node(tree, kinds):
    """The least node that has all of these kinds, which are not none and are the tree's."""
    if not has_several(kinds):
        return kinds
    least = tree.kinds
    for clade in tree.clades:
        if lies_within(kinds, clade):
            least = clade
    return least


def depth_of(tree, node):
    """The depth of a node: each clade that it lies in, but itself, is one step."""
    return len([clade for clade in tree.clades if clade != node and lies_within(node, clade)])


def is_split(tree):
    """Whether each clade of a tree has just two parts."""
    return all([len(parts_of(tree, clade)) == 2 for clade in tree.clades])


def tree_under(tree, kinds):
    """The tree cut down to those of its kinds that are among these; there is at least one."""
    return tree_by_sets(tree.kinds & kinds, [clade & kinds for clade in tree.clades])


def count_differing(one, other):
    """How many clades just one of two trees has."""
    return len(set(one.clades) ^ set(other.clades))


def does_show(tree, other):
    """Whether a tree shows another, whose kinds are among its own."""
    # Single kinds are nodes too, but have never two kinds in common with anything.
    shown = [clade & other.kinds for clade in tree.clades]
    return all([clade in shown for clade in other.clades])
