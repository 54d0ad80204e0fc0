"""The calls on one book: how they stand in a list of whole numbers, and their answers."""

from cladebook.calls import answer_clades, answer_differ, answer_drop, answer_node, answer_read
from cladebook.calls import answer_sets, answer_shows, answer_text, answer_under

PLACE_COUNT = 16

# Of each call: how many whole numbers it has; how many rows behind them; which
# of the numbers, from 0 on, are places; which of these are asked of for a tree.
LAYOUT = {
    1: (1, 1, (0,), ()),
    2: (2, 1, (0,), ()),
    3: (1, 0, (0,), (0,)),
    4: (1, 0, (0,), (0,)),
    5: (1, 0, (0,), (0,)),
    6: (2, 0, (0,), (0,)),
    7: (3, 0, (0, 2), (0,)),
    8: (2, 0, (0, 1), (0, 1)),
    9: (2, 0, (0, 1), (0, 1)),
}


class Call:
    """One call; behind is where in the list of calls the next one stands."""

    def __init__(self, number, numbers, rows, behind):
        self.number = number
        self.numbers = numbers
        self.rows = rows
        self.behind = behind


def answers(calls):
    """For each call in the list, in order: how many numbers it answers, and these."""
    book = [None] * PLACE_COUNT
    told = []
    at = 0
    while at < len(calls):
        call = cut_call(calls, at)
        answer = answer_call(book, call)
        told.append(len(answer))
        told.extend(answer)
        at = call.behind
    return told


def cut_call(calls, at):
    """The call that begins at this index of the list."""
    layout = LAYOUT[calls[at]]
    behind = at + 1 + layout[0]
    numbers = calls[at + 1:behind]
    rows = []
    while len(rows) < layout[1]:
        begin = behind + 1
        behind = begin + calls[behind]
        rows.append(calls[begin:behind])
    return Call(calls[at], numbers, rows, behind)


def answer_call(book, call):
    """What a call answers: a refusal of its places, else what the call itself says."""
    layout = LAYOUT[call.number]
    if any([call.numbers[k] >= PLACE_COUNT for k in layout[2]]):
        return [-1]
    if any([book[call.numbers[k]] is None for k in layout[3]]):
        return [-2]
    return carry_out(book, call)


def carry_out(book, call):
    """Do what a call asks, its places being good."""
    if call.number == 1:
        return answer_read(book, call.numbers, call.rows)
    if call.number == 2:
        return answer_sets(book, call.numbers, call.rows)
    if call.number == 3:
        return answer_drop(book, call.numbers, call.rows)
    if call.number == 4:
        return answer_text(book, call.numbers, call.rows)
    if call.number == 5:
        return answer_clades(book, call.numbers, call.rows)
    if call.number == 6:
        return answer_node(book, call.numbers, call.rows)
    if call.number == 7:
        return answer_under(book, call.numbers, call.rows)
    if call.number == 8:
        return answer_differ(book, call.numbers, call.rows)
    return answer_shows(book, call.numbers, call.rows)
