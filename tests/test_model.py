"""The program beside a second, slower telling of the document's words, on many made-up lists of calls.

Here a set is a frozenset of kinds, a tree its kinds and its clades, a text what its nested tuples are written
as; nothing of the program is used.
"""

import ast
import random
import re
import unittest

from tests.helper import TOP, answers, clades, cut, differ, drop, node, read, sets, shows, text, under


def number_of(kinds):
    return sum(2 ** kind for kind in kinds)


def set_of(number):
    return frozenset(kind for kind in range(64) if number >> kind & 1)


def written(part):
    """A nested tuple of kinds as text."""
    return str(part) if isinstance(part, int) else "(" + ",".join(written(inner) for inner in part) + ")"


def kinds_in(part):
    return [part] if isinstance(part, int) else [kind for inner in part for kind in kinds_in(inner)]


def nested_tuple(words):
    """The nested tuple that these words are a text of, or None."""
    # Python would take empty brackets, a call of a number, and a 0 in front of a 0.
    if not re.fullmatch(r"[0-9(),]+;", words) or re.search(r"\(\)|[0-9)]\(|(?<![0-9])0[0-9]", words):
        return None
    try:
        part = ast.literal_eval(words[:-1])
    except SyntaxError:
        return None
    kinds = kinds_in(part)
    if written(part) + ";" != words or len(kinds) != len(set(kinds)) or not all(kind < 64 for kind in kinds):
        return None
    return part


def tree_of(part):
    found = set()

    def gather(inner):
        if not isinstance(inner, int):
            found.add(frozenset(kinds_in(inner)))
            for further in inner:
                gather(further)

    gather(part)
    return frozenset(kinds_in(part)), found


def completed(words):
    """The words with as little behind them as makes a tree's text, if anything can; numbers have ended."""
    standing = re.findall("[0-9]+", words)
    free = [str(kind) for kind in range(64) if str(kind) not in standing]
    if words == "" or words[-1] in "(,":
        if not free:
            return None
        words += free.pop()
    commas = [0]
    for sign in words:
        if sign == "(":
            commas.append(0)
        elif sign == ")":
            commas.pop()
        elif sign == ",":
            commas[-1] += 1
        if not commas:
            return None
    while len(commas) > 1:
        if commas.pop() == 0:
            if not free:
                return None
            words += "," + free.pop()
        words += ")"
    return words + ";"


def begins_a_text(words):
    """Whether some tree's text begins with these words."""
    ways = [words]
    if words[-1:].isdigit():
        ways += [words + str(digit) for digit in range(10)]
    for way in ways:
        whole = way if way.endswith(";") else completed(way)
        if whole is not None and nested_tuple(whole) is not None:
            return True
    return False


def fault_of(words):
    """What a text begins with, it begins with cut shorter too; so the fault can be looked for by halves."""
    least, most = 0, len(words)
    while least < most:
        middle = (least + most + 1) // 2
        if begins_a_text(words[:middle]):
            least = middle
        else:
            most = middle - 1
    return least


def nodes_of(tree):
    return tree[1] | {frozenset([kind]) for kind in tree[0]}


def parts_of(tree, whole):
    inner = [one for one in nodes_of(tree) if one < whole]
    return sorted((one for one in inner if not any(one < other for other in inner)), key=min)


def depth_of(tree, one):
    if one == tree[0]:
        return 0
    above = [clade for clade in tree[1] if one in parts_of(tree, clade)]
    return 1 + depth_of(tree, above[0])


def text_of(tree, one):
    if len(one) == 1:
        return str(min(one))
    return "(" + ",".join(text_of(tree, part) for part in parts_of(tree, one)) + ")"


def by_sets(kinds, row):
    return kinds, {one for one in list(row) + [kinds] if len(one) > 1}


def crossing(one, other):
    return bool(one & other) and not one <= other and not other <= one


class Model:
    names = ["read", "sets", "drop", "text", "clades", "node", "under", "differ", "shows"]

    def __init__(self):
        self.book = {}

    def answer(self, call):
        if any(place > 15 for place in self.places(call)):
            return [-1]
        if any(place not in self.book for place in self.asked(call)):
            return [-2]
        return getattr(self, self.names[call[0] - 1])(*call[1:])

    def places(self, call):
        return [call[at] for at in {7: [1, 3], 8: [1, 2], 9: [1, 2]}.get(call[0], [1])]

    def asked(self, call):
        return [] if call[0] in (1, 2) else [call[1]] if call[0] == 7 else self.places(call)

    def read(self, p, length, *signs):
        words = "".join(chr(sign) for sign in signs)
        part = nested_tuple(words)
        if part is None:
            return [-6, fault_of(words)]
        self.book[p] = tree_of(part)
        return [len(self.book[p][1])]

    def sets(self, p, kinds, length, *row):
        kinds = set_of(kinds)
        row = [set_of(one) for one in row]
        if not kinds or not all(one <= kinds for one in row):
            return [-3]
        pairs = [(i, j) for j in range(len(row)) for i in range(j) if crossing(row[i], row[j])]
        if pairs:
            return [0] + list(min(pairs))
        self.book[p] = by_sets(kinds, row)
        return [1]

    def drop(self, p):
        self.book.pop(p)
        return [0]

    def text(self, p):
        words = text_of(self.book[p], self.book[p][0]) + ";"
        return [len(words)] + [ord(sign) for sign in words]

    def clades(self, p):
        tree = self.book[p]
        return [len(tree[1]), number_of(tree[0])] + sorted(map(number_of, tree[1]), reverse=True)

    def node(self, p, kinds):
        tree, kinds = self.book[p], set_of(kinds)
        if not kinds or not kinds <= tree[0]:
            return [-3]
        least = min((one for one in nodes_of(tree) if kinds <= one), key=len)
        parts = parts_of(tree, least)
        return [len(parts), number_of(least), depth_of(tree, least)] + [number_of(part) for part in parts]

    def under(self, p, kinds, q):
        tree, kinds = self.book[p], set_of(kinds)
        if not tree[0] & kinds:
            return [-3]
        self.book[q] = by_sets(tree[0] & kinds, [clade & kinds for clade in tree[1]])
        return [len(self.book[q][1])]

    def differ(self, p, q):
        one, other = self.book[p], self.book[q]
        return [len(one[1] - other[1]) + len(other[1] - one[1])] if one[0] == other[0] else [-3]

    def shows(self, p, q):
        one, other = self.book[p], self.book[q]
        if not other[0] <= one[0]:
            return [-3]
        return [int(all(any(inner & other[0] == clade for inner in nodes_of(one)) for clade in other[1]))]


class Maker:
    """Makes calls up; the same ones at every run."""

    def __init__(self, seed):
        self.random = random.Random(seed)
        self.kinds = self.random.sample(range(64), self.random.choice([1, 2, 4, 6, 6, 9, 20]))

    def place(self):
        return self.random.choice([0, 0, 1, 1, 2, 3, 15, 15] * 4 + [16, TOP])

    def some(self, least=0):
        return self.random.sample(self.kinds, self.random.randint(min(least, len(self.kinds)), len(self.kinds)))

    def kindset(self):
        extra = self.random.choice([0] * 9 + [1, 2 ** 63, TOP])
        return number_of(self.some()) | extra

    def part(self, kinds):
        """A tree of these kinds as a nested tuple."""
        if len(kinds) == 1:
            return kinds[0]
        cuts = sorted(self.random.sample(range(1, len(kinds)), self.random.randint(1, min(3, len(kinds) - 1))))
        pieces = zip([0] + cuts, cuts + [len(kinds)])
        return tuple(self.part(kinds[begin:end]) for begin, end in pieces)

    def words(self):
        words = written(self.part(self.some(1))) + ";"
        for time in range(self.random.choice([0, 0, 0, 1, 1, 2])):
            at = self.random.randint(0, len(words))
            sign = self.random.choice("0123456789(),;((,,)) a")
            words = self.random.choice([words[:at], words[:at] + sign + words[at:], words[:at] + words[at + 1:],
                                        words[:at] + sign + words[at + 1:]])
        return words

    def row(self):
        tree = tree_of(self.part(self.some(1)))
        row = [number_of(one) for one in sorted(nodes_of(tree), key=sorted)]
        row = self.random.sample(row, self.random.randint(0, len(row)))
        if self.random.random() < 0.3:
            row += [self.kindset(), self.kindset()]
        self.random.shuffle(row)
        return row

    def call(self):
        which = self.random.choice([1, 1, 1, 2, 2, 3, 4, 5, 6, 6, 7, 7, 8, 8, 9, 9])
        p, q = self.place(), self.place()
        if which == 1:
            return read(p, self.words())
        if which == 2:
            return sets(p, self.random.choice([number_of(self.kinds)] * 8 + [0, self.kindset()]), self.row())
        if which == 6:
            return node(p, self.kindset())
        if which == 7:
            return under(p, self.kindset(), q)
        if which in (8, 9):
            return differ(p, q) if which == 8 else shows(p, q)
        return {3: drop, 4: text, 5: clades}[which](p)


class BesideTheModel(unittest.TestCase):
    def test_many_lists_of_calls(self):
        heads = {}
        for seed in range(150):
            maker, model = Maker(seed), Model()
            calls = [maker.call() for time in range(60)]
            got = cut(answers([number for call in calls for number in call]))
            for call, answer in zip(calls, got, strict=True):
                self.assertEqual(answer, model.answer(call), (seed, call))
                heads.setdefault(call[0], set()).add(answer[0])
        # Each call has been answered, and been refused in each way it can be.
        self.assertTrue({-1, -6, 0, 1, 2, 3} <= heads[1])
        self.assertTrue({-1, -3, 0, 1} <= heads[2])
        self.assertTrue({-1, -2, 0} <= heads[3])
        self.assertTrue({-1, -2, 2} <= heads[4])
        self.assertTrue({-1, -2, 0, 1, 2} <= heads[5])
        self.assertTrue({-1, -2, -3, 0, 2} <= heads[6])
        for which in (7, 8, 9):
            self.assertTrue({-1, -2, -3, 0, 1} <= heads[which])

    def test_faults_where_few_kinds_are_left(self):
        for seed in range(120):
            maker, model = Maker(seed), Model()
            maker.kinds = maker.random.sample(range(64), maker.random.randint(58, 64))
            words = written(maker.part(maker.kinds)) + ";"
            for time in range(4):
                at = maker.random.randint(len(words) // 2, len(words))
                sign = maker.random.choice("(,)0123456789")
                call = read(0, words[:at] + sign + words[at:])
                self.assertEqual(cut(answers(call))[0], model.answer(call), (seed, call))


if __name__ == "__main__":
    unittest.main()
