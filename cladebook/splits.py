"""The split trees of a tree: how many there are, and how they are numbered by digits."""

from cladebook.clades import is_split, parts_of, tree_by_sets
from cladebook.kinds import lies_within


def digit_widths(tree):
    """How many numbers each digit has, the weightiest digit first."""
    widths = []
    for clade in tree.clades:
        widths.extend([2 * i - 1 for i in range(2, len(parts_of(tree, clade)))])
    return widths


def count_splits(tree):
    """How many split trees a tree has."""
    count = 1
    for width in digit_widths(tree):
        count = count * width
    return count


def split_tree(tree, number):
    """The split tree of this number, which is below the count."""
    digits = digits_of(number, digit_widths(tree))
    found = []
    at = 0
    for clade in tree.clades:
        parts = parts_of(tree, clade)
        nodes = first_nodes(parts)
        for part in parts[2:]:
            nodes = put_together(nodes, nodes[digits[at]], part)
            at += 1
        found.extend(nodes)
    return tree_by_sets(tree.kinds, found)


def is_split_of(split, tree):
    """Whether the first is one of the split trees of the other."""
    if split.kinds != tree.kinds or not is_split(split):
        return False
    return all([clade in split.clades for clade in tree.clades])


def split_number(split, tree):
    """Which of the split trees of a tree this one is."""
    number = 0
    for clade in tree.clades:
        parts = parts_of(tree, clade)
        nodes = first_nodes(parts)
        before = parts[0] | parts[1]
        for part in parts[2:]:
            node = partner_of(split, part, before)
            number = number * len(nodes) + nodes.index(node)
            nodes = put_together(nodes, node, part)
            before = before | part
    return number


def digits_of(number, widths):
    """The digits of a number, the weightiest first."""
    digits = []
    rest = number
    for width in reversed(widths):
        digits.append(rest % width)
        rest = rest // width
    digits.reverse()
    return digits


def first_nodes(parts):
    """The nodes there are when the first two parts have been put together, falling."""
    return sorted([parts[0], parts[1], parts[0] | parts[1]], reverse=True)


def put_together(nodes, node, part):
    """The nodes, falling, once a part has been put together with one of them."""
    grown = [part, node]
    for one in nodes:
        # What has the node has the part too from then; of the node itself that is a new one.
        grown.append(one | part if lies_within(node, one) else one)
    return sorted(grown, reverse=True)


def partner_of(split, part, before):
    """With what of the kinds before it a part is put together in a split tree."""
    least = split.kinds
    for clade in split.clades:
        if lies_within(part, clade) and (clade & before) != 0:
            least = clade
    return least & before
