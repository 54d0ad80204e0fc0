"""The calls on one book: how they stand in a list of whole numbers, and their answers."""

from cladebook.calls import answer_changes, answer_clades, answer_clock, answer_common, answer_count, answer_differ
from cladebook.calls import answer_drop, answer_joint, answer_links, answer_node, answer_nth, answer_rank
from cladebook.calls import answer_read, answer_sets, answer_settle, answer_shows, answer_text, answer_under

PLACE_COUNT = 16

# Of each call: how many whole numbers it has; how many rows behind them; which
# of the numbers, from 0 on, are places; which of these are asked of for a tree;
# whether its row is one of places, which are asked of too.
LAYOUT = {
    1: (1, 1, (0,), (), False),
    2: (2, 1, (0,), (), False),
    3: (1, 0, (0,), (0,), False),
    4: (1, 0, (0,), (0,), False),
    5: (1, 0, (0,), (0,), False),
    6: (2, 0, (0,), (0,), False),
    7: (3, 0, (0, 2), (0,), False),
    8: (2, 0, (0, 1), (0, 1), False),
    9: (2, 0, (0, 1), (0, 1), False),
    10: (3, 1, (2,), (), True),
    11: (1, 1, (0,), (), True),
    12: (1, 2, (0,), (0,), False),
    13: (2, 1, (1,), (), False),
    14: (1, 1, (), (), False),
    15: (1, 0, (0,), (0,), False),
    16: (3, 0, (0, 2), (0,), False),
    17: (2, 0, (0, 1), (0, 1), False),
    18: (2, 1, (0, 1), (0, 1), False),
}


class Call:
    """One call; behind is where in the list of calls the next one stands."""

    def __init__(self, number, numbers, rows, behind):
        self.number = number
        self.numbers = numbers
        self.rows = rows
        self.behind = behind


def answers(calls):
    """For each call in the list, in order: how many numbers it answers, and these."""
    book = [None] * PLACE_COUNT
    told = []
    at = 0
    while at < len(calls):
        call = cut_call(calls, at)
        answer = answer_call(book, call)
        told.append(len(answer))
        told.extend(answer)
        at = call.behind
    return told


def cut_call(calls, at):
    """The call that begins at this index of the list."""
    layout = LAYOUT[calls[at]]
    behind = at + 1 + layout[0]
    numbers = calls[at + 1:behind]
    rows = []
    while len(rows) < layout[1]:
        begin = behind + 1
        behind = begin + calls[behind]
        rows.append(calls[begin:behind])
    return Call(calls[at], numbers, rows, behind)


def answer_call(book, call):
    """What a call answers: a refusal of its places, else what the call itself says."""
    layout = LAYOUT[call.number]
    listed = call.rows[0] if layout[4] else []
    places = [call.numbers[k] for k in layout[2]] + listed
    asked = [call.numbers[k] for k in layout[3]] + listed
    if any([place >= PLACE_COUNT for place in places]):
        return [-1]
    if any([book[place] is None for place in asked]):
        return [-2]
    if call.number <= 9:
        return carry_out_first_nine(book, call)
    return carry_out_last_nine(book, call)


def carry_out_first_nine(book, call):
    """Do what one of the calls 1 to 9 asks, its places being good."""
    if call.number == 1:
        return answer_read(book, call.numbers, call.rows)
    if call.number == 2:
        return answer_sets(book, call.numbers, call.rows)
    if call.number == 3:
        return answer_drop(book, call.numbers, call.rows)
    if call.number == 4:
        return answer_text(book, call.numbers, call.rows)
    if call.number == 5:
        return answer_clades(book, call.numbers, call.rows)
    if call.number == 6:
        return answer_node(book, call.numbers, call.rows)
    if call.number == 7:
        return answer_under(book, call.numbers, call.rows)
    if call.number == 8:
        return answer_differ(book, call.numbers, call.rows)
    return answer_shows(book, call.numbers, call.rows)


def carry_out_last_nine(book, call):
    """Do what one of the calls 10 to 18 asks, its places being good."""
    if call.number == 10:
        return answer_common(book, call.numbers, call.rows)
    if call.number == 11:
        return answer_joint(book, call.numbers, call.rows)
    if call.number == 12:
        return answer_changes(book, call.numbers, call.rows)
    if call.number == 13:
        return answer_clock(book, call.numbers, call.rows)
    if call.number == 14:
        return answer_links(book, call.numbers, call.rows)
    if call.number == 15:
        return answer_count(book, call.numbers, call.rows)
    if call.number == 16:
        return answer_nth(book, call.numbers, call.rows)
    if call.number == 17:
        return answer_rank(book, call.numbers, call.rows)
    return answer_settle(book, call.numbers, call.rows)
