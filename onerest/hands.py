"""Changes by hand: what becomes of the rest if the initial state of a node is another one."""

from onerest.books import check_book, check_state
from onerest.outcomes import check_settled
from onerest.readers import reader_of, run_from_top
from onerest.rows import first_unlike
from onerest.trees import check_node, check_tree, line_of, with_state


def check_settled_node(book, tree, node, state):
    """Raise what is wrong with a settled book, a tree, the number of a node and a state."""
    check_tree(book, tree)
    check_node(tree, node)
    check_state(book, state)
    check_settled(book)


def changed_nodes(book, tree, node, state):
    """The nodes, ascending, whose rests are other ones if the node begins in this state."""
    check_settled_node(book, tree, node, state)
    rests = run_from_top(book, tree)[1][2]
    other_rests = run_from_top(book, with_state(tree, node, state))[1][2]
    return [k for k in range(len(rests)) if rests[k] != other_rests[k]]


def reach_ranks(book):
    """For each pair of rows of the reader, row < other, the tuple (row, other, k) of point 33."""
    ranks = pair_ranks(reader_of(book)[1])
    return [(row, other, ranks[(row, other)]) for row, other in sorted(list(ranks))]


def pair_ranks(rows):
    """For each pair of rows, the lower one first, the greatest index of unlike states, None without a greatest one.

    The rows are those of a reader with the fewest rows, so that any two read some line unlike.
    """
    ranks = {(row, other): None for other in range(len(rows)) for row in range(other)}
    grown = True
    while grown:
        grown = False
        for pair in list(ranks):
            below = [after for _, after in pairs_below(rows, pair)]
            if ranks[pair] is None and all([ranks[after] is not None for after in below]):
                ranks[pair] = max([ranks[after] + 1 for after in below], default=0)
                grown = True
    return ranks


def pairs_below(rows, pair):
    """All tuples (state, pair) of a state that leads this pair of rows to unlike rows, and of these."""
    row, other = pair
    afters = [(rows[row][state][1], rows[other][state][1]) for state in range(len(rows[row]))]
    return [(state, ordered_pair(one, two)) for state, (one, two) in enumerate(afters) if one != two]


def ordered_pair(row, other):
    """The two rows, the lower one first."""
    return (min(row, other), max(row, other))


def change_reach(book):
    """How far below a changed node states of the rest can change, for all trees: point 32 or 33."""
    reader = reader_of(book)
    ranks = pair_ranks(reader[1])
    reach = -1
    widest = None
    for change in root_changes(book[0]):
        found = reach_of(reader, ranks, change)
        if found is None:
            return endless_reach(reader, ranks, change)
        if found > reach:
            reach = found
            widest = change
    if widest is None:
        return ("bound", -1, None)
    return ("bound", reach, changed_line(widest, states_of_reach(reader, ranks, widest, reach)))


def root_changes(n):
    """All changes (outside, state, other): a root in this state begins in the other one."""
    # A node with a parent ends as a root does whose outside is the rest of the parent and
    # whose state is the one that the parent's way tells the node. So roots show all there is.
    states = range(n)
    return [(outside, state, other) for outside in states for other in states for state in range(other)]


def reach_of(reader, ranks, change):
    """How far below its node a change goes: -1 for not at all, None for as far as one likes."""
    (rest, below), (other_rest, other_below) = pairs_at_root(reader, change)
    if below != other_below:
        rank = ranks[ordered_pair(below, other_below)]
        return None if rank is None else rank + 1
    return -1 if rest == other_rest else 0


def pairs_at_root(reader, change):
    """The pairs (state, row) that the reader has for a root before and behind a change."""
    outside, state, other = change
    row = reader[1][reader[0][outside]]
    return (row[state], row[other])


def rows_behind(reader, change):
    """The pair of rows by which a child of the root is read before and behind a change."""
    (_, below), (_, other_below) = pairs_at_root(reader, change)
    return ordered_pair(below, other_below)


def changed_line(change, states_below):
    """The tuple (line, node, state) of a line of a root, which is changed, and of nodes in these states."""
    outside, state, other = change
    return (line_of(outside, [state] + states_below), 0, other)


def states_of_reach(reader, ranks, change, reach):
    """The states of as many nodes below a changed root as the change goes down."""
    states = []
    if reach == 0:
        return states
    rows = reader[1]
    pair = rows_behind(reader, change)
    while ranks[pair] > 0:
        state, pair = [step for step in pairs_below(rows, pair) if ranks[step[1]] == ranks[pair] - 1][0]
        states.append(state)
    return states + states_told_apart(rows, pair)


def states_told_apart(rows, pair):
    """The states of a shortest line of which the last node is read unlike by the two rows."""
    row, other = pair
    return list(first_unlike(((row,), rows), ((other,), rows))[1])


def endless_reach(reader, ranks, change):
    """The answer ("any", (line, node, state), first, last) for a change that goes down without a bound."""
    # Below a pair of rows without a rank there is another one, so that the way down comes
    # to one of them again: what lies between may be put in once more, any number of times.
    rows = reader[1]
    pair = rows_behind(reader, change)
    met = []
    states = []
    while pair not in met:
        met.append(pair)
        state, pair = [step for step in pairs_below(rows, pair) if ranks[step[1]] is None][0]
        states.append(state)
    changed = changed_line(change, states + states_told_apart(rows, pair))
    # The node with the number k + 1 is read by the rows that met has at k.
    return ("any", changed, met.index(pair) + 1, len(states))


def touched_states(book, held):
    """All tuples (rule, old, new), ascending: the rule takes its node or a child from a held state to another."""
    check_book(book)
    for state in held:
        check_state(book, state)
    touched = []
    for number, (_, own, new, signal) in enumerate(book[1]):
        moves = [(own, new)] + list(enumerate(signal))
        touched.extend([(number, old, after) for old, after in moves if old in held and old != after])
    return sorted(set(touched))
