"""What each call does to the book and answers, once its places have been looked at.

A book is a list of places, each with a tree or None. Every function here has the
book, the call's whole numbers and its rows, and gives back the numbers answered.
"""

from cladebook.clades import count_differing, depth_of, does_show, least_node, parts_of, tree_by_sets, tree_under
from cladebook.kinds import first_crossing, lies_within
from cladebook.texts import is_tree_text, read_text, text_of, tree_read


def answer_read(book, numbers, rows):
    """Call 1: p; text."""
    reading = read_text(rows[0])
    if not is_tree_text(reading):
        return [-6, reading.length]
    return put_tree(book, numbers[0], tree_read(reading))


def answer_sets(book, numbers, rows):
    """Call 2: p, kinds; sets."""
    kinds = numbers[1]
    sets = rows[0]
    if kinds == 0 or not all([lies_within(one, kinds) for one in sets]):
        return [-3]
    crossing = first_crossing(sets)
    if crossing != []:
        return [0] + crossing
    book[numbers[0]] = tree_by_sets(kinds, sets)
    return [1]


def answer_drop(book, numbers, rows):
    """Call 3: p."""
    book[numbers[0]] = None
    return [0]


def answer_text(book, numbers, rows):
    """Call 4: p."""
    text = text_of(book[numbers[0]])
    return [len(text)] + [ord(sign) for sign in text]


def answer_clades(book, numbers, rows):
    """Call 5: p."""
    tree = book[numbers[0]]
    return [len(tree.clades), tree.kinds] + tree.clades


def answer_node(book, numbers, rows):
    """Call 6: p, set."""
    tree = book[numbers[0]]
    kinds = numbers[1]
    if kinds == 0 or not lies_within(kinds, tree.kinds):
        return [-3]
    node = least_node(tree, kinds)
    parts = parts_of(tree, node)
    return [len(parts), node, depth_of(tree, node)] + parts


def answer_under(book, numbers, rows):
    """Call 7: p, set, q."""
    tree = book[numbers[0]]
    kinds = numbers[1]
    if (tree.kinds & kinds) == 0:
        return [-3]
    return put_tree(book, numbers[2], tree_under(tree, kinds))


def answer_differ(book, numbers, rows):
    """Call 8: p, q."""
    one = book[numbers[0]]
    other = book[numbers[1]]
    if one.kinds != other.kinds:
        return [-3]
    return [count_differing(one, other)]


def answer_shows(book, numbers, rows):
    """Call 9: p, q."""
    tree = book[numbers[0]]
    other = book[numbers[1]]
    if not lies_within(other.kinds, tree.kinds):
        return [-3]
    return [1 if does_show(tree, other) else 0]


def put_tree(book, place, tree):
    """Put a tree at a place, and answer how many clades it has."""
    book[place] = tree
    return [len(tree.clades)]
