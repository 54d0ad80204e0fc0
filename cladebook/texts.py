"""The text of a tree, and the reading of bytes that may be one."""

from cladebook.clades import parts_of, tree_by_sets
from cladebook.kinds import KIND_COUNT, has_kind, kind_in, singles_of

# The bytes that a tree's text is made of, beside the digits between these two.
OPENING = 40
CLOSING = 41
COMMA = 44
ENDING = 59
DIGIT_ZERO = 48
DIGIT_NINE = 57

# Where a reading stands: a part is to come; within a number; behind a part
# that has ended; behind the whole text.
AHEAD = 0
NUMBER = 1
BEHIND = 2
WHOLE = 3


def text_of(tree):
    """The text of a tree."""
    texts = {}
    for single in singles_of(tree.kinds):
        texts[single] = str(kind_in(single))
    # Rising, so that the texts of a clade's parts are there ahead of its own.
    for clade in reversed(tree.clades):
        told = [texts[part] for part in parts_of(tree, clade)]
        texts[clade] = "(" + ",".join(told) + ")"
    return texts[tree.kinds] + ";"


class Reading:
    """How far bytes have been read, and what they have told so far.

    length: how many bytes have been read; some tree's text begins with them.
    number: the number that is being read, while the stage is NUMBER.
    taken, left: the kinds that stand in what was read; how many others there are.
    gathered, parts: of the whole, then of each bracket that is not closed yet,
    the kinds of the parts that have ended, and how many parts these are.
    clades: the brackets that are closed.
    """

    def __init__(self, text):
        self.text = text
        self.length = 0
        self.stage = AHEAD
        self.number = 0
        self.taken = 0
        self.left = KIND_COUNT
        self.gathered = [0]
        self.parts = [0]
        self.clades = []


def read_text(text):
    """A reading of as many of the bytes as some tree's text begins with."""
    reading = Reading(text)
    while reading.length < len(text) and take_byte(reading, text[reading.length]):
        reading.length += 1
    return reading


def is_tree_text(reading):
    """Whether the bytes are a tree's text; if not, the reading's length is the fault."""
    return reading.stage == WHOLE and reading.length == len(reading.text)


def tree_read(reading):
    """The tree whose text has been read."""
    return tree_by_sets(reading.gathered[0], reading.clades)


def take_byte(reading, byte):
    """Read one byte more; whether some tree's text begins with what is read then.

    Behind a False the reading is not to be gone on with.
    """
    if DIGIT_ZERO <= byte and byte <= DIGIT_NINE:
        return take_digit(reading, byte - DIGIT_ZERO)
    if byte == OPENING:
        return take_opening(reading)
    if byte == COMMA:
        return take_comma(reading)
    if byte == CLOSING:
        return take_closing(reading)
    if byte == ENDING:
        return take_ending(reading)
    return False


def take_digit(reading, digit):
    """Read a digit, a number's first or a further one."""
    if reading.stage == AHEAD:
        reading.stage = NUMBER
        reading.number = digit
        return begins_free_kind(reading, digit)
    if reading.stage != NUMBER or reading.number == 0:
        return False
    reading.number = 10 * reading.number + digit
    return is_free_kind(reading, reading.number)


def take_opening(reading):
    """Read an opening bracket."""
    if reading.stage != AHEAD:
        return False
    reading.gathered.append(0)
    reading.parts.append(0)
    return has_kinds_enough(reading)


def take_comma(reading):
    """Read a comma."""
    if not is_in_bracket(reading) or not end_part(reading):
        return False
    reading.stage = AHEAD
    return has_kinds_enough(reading)


def take_closing(reading):
    """Read a closing bracket; the clade that it ends is a part of what is around it."""
    if not is_in_bracket(reading) or not end_part(reading) or reading.parts[-1] < 2:
        return False
    clade = reading.gathered.pop()
    reading.parts.pop()
    reading.clades.append(clade)
    add_part(reading, clade)
    return True


def take_ending(reading):
    """Read the sign that stands behind the whole."""
    if is_in_bracket(reading) or not end_part(reading):
        return False
    reading.stage = WHOLE
    return True


def is_in_bracket(reading):
    """Whether there is a bracket that is not closed yet."""
    return len(reading.parts) > 1


def end_part(reading):
    """End the number that is being read, if it can end; whether a part has ended here."""
    if reading.stage == NUMBER and is_free_kind(reading, reading.number):
        single = 1 << reading.number
        reading.taken = reading.taken | single
        reading.left -= 1
        add_part(reading, single)
    return reading.stage == BEHIND


def add_part(reading, kinds):
    """Put a part that has ended to the innermost bracket, or to the whole."""
    reading.gathered[-1] = reading.gathered[-1] | kinds
    reading.parts[-1] += 1
    reading.stage = BEHIND


def is_free_kind(reading, number):
    """Whether this is the number of a kind that has not stood in the text yet."""
    return number < KIND_COUNT and not has_kind(reading.taken, number)


def begins_free_kind(reading, digit):
    """Whether the number of some kind that has not stood yet begins with this digit."""
    if is_free_kind(reading, digit):
        return True
    return digit != 0 and any([is_free_kind(reading, 10 * digit + last) for last in range(10)])


def has_kinds_enough(reading):
    """Whether the kinds that are left can make up what must still come, a part being to come next."""
    # A bracket without a part needs two, and what is begun within it is but one of them: so
    # each such bracket asks for a kind of its own. The part that is to come asks for one
    # too, which the whole counts for: it has no part either until all brackets are closed.
    return reading.parts.count(0) <= reading.left
