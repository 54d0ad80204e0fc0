"""What the tests share: calls as lists of whole numbers, and their answers one by one."""

from cladebook.trees import answers

TOP = 2 ** 64 - 1


def read(p, text):
    signs = list(text) if isinstance(text, bytes) else [ord(sign) for sign in text]
    return [1, p, len(signs)] + signs


def sets(p, kinds, row):
    return [2, p, kinds, len(row)] + list(row)


def drop(p):
    return [3, p]


def text(p):
    return [4, p]


def clades(p):
    return [5, p]


def node(p, kinds):
    return [6, p, kinds]


def under(p, kinds, q):
    return [7, p, kinds, q]


def differ(p, q):
    return [8, p, q]


def shows(p, q):
    return [9, p, q]


def common(a, b, q, places):
    return [10, a, b, q, len(places)] + list(places)


def joint(q, places):
    return [11, q, len(places)] + list(places)


def changes(p, states, costs):
    return [12, p, len(states)] + list(states) + [len(costs)] + list(costs)


def clock(kinds, q, distances):
    return [13, kinds, q, len(distances)] + list(distances)


def links(kinds, distances):
    return [14, kinds, len(distances)] + list(distances)


def count(p):
    return [15, p]


def nth(p, k, q):
    return [16, p, k, q]


def rank(p, q):
    return [17, p, q]


def settle(p, q, homes):
    return [18, p, q, len(homes)] + list(homes)


def chain_sets(kinds):
    """The clades of a tree in which each of these kinds is put to all before it."""
    return [kinds_of(*kinds[:length]) for length in range(2, len(kinds) + 1)]


def kinds_of(*kinds):
    """The set of these kinds."""
    return sum(2 ** kind for kind in set(kinds))


def told_text(words):
    """What the call text answers of a tree with this text."""
    return [len(words)] + [ord(sign) for sign in words]


def cut(told):
    """The answers of each call, out of what all of them answer."""
    cut_answers = []
    at = 0
    while at < len(told):
        cut_answers.append(told[at + 1:at + 1 + told[at]])
        at += 1 + told[at]
    if at != len(told):
        raise ValueError("the last answer is shorter than its count")
    return cut_answers


def run(*calls):
    """What each of these calls answers, on one book."""
    return cut(answers([number for call in calls for number in call]))


def whole_book():
    """Calls that tell all that stands in the book."""
    return [clades(p) for p in range(16)] + [text(p) for p in range(16)]
