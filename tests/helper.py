"""What the tests share: calls as lists of whole numbers, and their answers one by one."""

from cladebook.trees import answers

TOP = 2 ** 64 - 1


def read(p, text):
    signs = list(text) if isinstance(text, bytes) else [ord(sign) for sign in text]
    return [1, p, len(signs)] + signs


def sets(p, kinds, row):
    return [2, p, kinds, len(row)] + list(row)


def drop(p):
    return [3, p]


def text(p):
    return [4, p]


def clades(p):
    return [5, p]


def node(p, kinds):
    return [6, p, kinds]


def under(p, kinds, q):
    return [7, p, kinds, q]


def differ(p, q):
    return [8, p, q]


def shows(p, q):
    return [9, p, q]


def kinds_of(*kinds):
    """The set of these kinds."""
    return sum(2 ** kind for kind in set(kinds))


def told_text(words):
    """What the call text answers of a tree with this text."""
    return [len(words)] + [ord(sign) for sign in words]


def cut(told):
    """The answers of each call, out of what all of them answer."""
    cut_answers = []
    at = 0
    while at < len(told):
        cut_answers.append(told[at + 1:at + 1 + told[at]])
        at += 1 + told[at]
    if at != len(told):
        raise ValueError("the last answer is shorter than its count")
    return cut_answers


def run(*calls):
    """What each of these calls answers, on one book."""
    return cut(answers([number for call in calls for number in call]))


def whole_book():
    """Calls that tell all that stands in the book."""
    return [clades(p) for p in range(16)] + [text(p) for p in range(16)]
