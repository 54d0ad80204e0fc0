"""What each call does to the book and answers, once its places have been looked at.

A book is a list of places, each with a tree or None. Every function here has the
book, the call's whole numbers and its rows, and gives back the numbers answered.
"""

from cladebook.clades import count_differing, depth_of, does_show, is_split, least_node, parts_of
from cladebook.clades import tree_by_sets, tree_under
from cladebook.distances import clock_bar, clock_tree, count_pairs, link_by_averages
from cladebook.hosts import settle_clades
from cladebook.kinds import first_crossing, has_kind, lies_within, singles_of
from cladebook.many import common_tree, join_trees
from cladebook.splits import count_splits, is_split_of, split_number, split_tree
from cladebook.states import STATE_COUNT, cheapest_giving
from cladebook.texts import is_tree_text, read_text, text_of, tree_read


def answer_read(book, numbers, rows):
    """Call 1: p; text."""
    reading = read_text(rows[0])
    if not is_tree_text(reading):
        return [-6, reading.length]
    return put_tree(book, numbers[0], tree_read(reading))


def answer_sets(book, numbers, rows):
    """Call 2: p, kinds; sets."""
    kinds = numbers[1]
    sets = rows[0]
    if kinds == 0 or not all([lies_within(one, kinds) for one in sets]):
        return [-3]
    crossing = first_crossing(sets)
    if crossing != []:
        return [0] + crossing
    book[numbers[0]] = tree_by_sets(kinds, sets)
    return [1]


def answer_drop(book, numbers, rows):
    """Call 3: p."""
    book[numbers[0]] = None
    return [0]


def answer_text(book, numbers, rows):
    """Call 4: p."""
    text = text_of(book[numbers[0]])
    return [len(text)] + [ord(sign) for sign in text]


def answer_clades(book, numbers, rows):
    """Call 5: p."""
    tree = book[numbers[0]]
    return [len(tree.clades), tree.kinds] + tree.clades


def answer_node(book, numbers, rows):
    """Call 6: p, set."""
    tree = book[numbers[0]]
    kinds = numbers[1]
    if kinds == 0 or not lies_within(kinds, tree.kinds):
        return [-3]
    node = least_node(tree, kinds)
    parts = parts_of(tree, node)
    return [len(parts), node, depth_of(tree, node)] + parts


def answer_under(book, numbers, rows):
    """Call 7: p, set, q."""
    tree = book[numbers[0]]
    kinds = numbers[1]
    if (tree.kinds & kinds) == 0:
        return [-3]
    return put_tree(book, numbers[2], tree_under(tree, kinds))


def answer_differ(book, numbers, rows):
    """Call 8: p, q."""
    one = book[numbers[0]]
    other = book[numbers[1]]
    if one.kinds != other.kinds:
        return [-3]
    return [count_differing(one, other)]


def answer_shows(book, numbers, rows):
    """Call 9: p, q."""
    tree = book[numbers[0]]
    other = book[numbers[1]]
    if not lies_within(other.kinds, tree.kinds):
        return [-3]
    return [1 if does_show(tree, other) else 0]


def answer_common(book, numbers, rows):
    """Call 10: a, b, q; places."""
    a = numbers[0]
    b = numbers[1]
    trees = [book[place] for place in rows[0]]
    if trees == [] or b == 0 or 2 * a < b or any([tree.kinds != trees[0].kinds for tree in trees]):
        return [-3]
    return put_tree(book, numbers[2], common_tree(trees, a, b))


def answer_joint(book, numbers, rows):
    """Call 11: q; places."""
    # A tree that stands twice binds no more than it does once.
    trees = [book[place] for place in sorted(set(rows[0]))]
    if trees == []:
        return [-3]
    joining = join_trees(trees)
    if joining.barring != []:
        return [0, max(joining.barring)]
    book[numbers[0]] = tree_by_sets(joining.kinds, joining.found)
    return [1]


def answer_changes(book, numbers, rows):
    """Call 12: p; states; costs."""
    tree = book[numbers[0]]
    states = rows[0]
    costs = rows[1]
    if len(states) != len(singles_of(tree.kinds)) or any([state >= STATE_COUNT for state in states]):
        return [-3]
    if len(costs) != STATE_COUNT * STATE_COUNT:
        return [-3]
    return cheapest_giving(tree, states, costs)


def answer_clock(book, numbers, rows):
    """Call 13: kinds, q; distances."""
    kinds = numbers[0]
    distances = rows[0]
    if kinds == 0 or len(distances) != count_pairs(kinds):
        return [-3]
    barring = clock_bar(kinds, distances)
    if barring != []:
        return [0] + barring
    book[numbers[1]] = clock_tree(kinds, distances)
    return [1]


def answer_links(book, numbers, rows):
    """Call 14: kinds; distances."""
    kinds = numbers[0]
    distances = rows[0]
    if kinds == 0 or len(distances) != count_pairs(kinds):
        return [-3]
    merges = link_by_averages(kinds, distances)
    answer = [len(merges)]
    for merge in merges:
        answer.extend(merge)
    return answer


def answer_count(book, numbers, rows):
    """Call 15: p."""
    return [count_splits(book[numbers[0]])]


def answer_nth(book, numbers, rows):
    """Call 16: p, k, q."""
    tree = book[numbers[0]]
    if numbers[1] >= count_splits(tree):
        return [-3]
    return put_tree(book, numbers[2], split_tree(tree, numbers[1]))


def answer_rank(book, numbers, rows):
    """Call 17: p, q."""
    tree = book[numbers[0]]
    split = book[numbers[1]]
    if not is_split_of(split, tree):
        return [-3]
    return [split_number(split, tree)]


def answer_settle(book, numbers, rows):
    """Call 18: p, q; homes."""
    genes = book[numbers[0]]
    hosts = book[numbers[1]]
    homes = rows[0]
    if not is_split(genes) or not is_split(hosts) or len(homes) != len(singles_of(genes.kinds)):
        return [-3]
    if not all([has_kind(hosts.kinds, home) for home in homes]):
        return [-3]
    settled = settle_clades(genes, hosts, homes)
    answer = [sum([one[1] for one in settled]), sum([one[2] for one in settled])]
    for one in settled:
        answer.extend(one)
    return answer


def put_tree(book, place, tree):
    """Put a tree at a place, and answer how many clades it has."""
    book[place] = tree
    return [len(tree.clades)]
