"""Initial states that are not known: open trees, and how many trees have one rest or are at rest."""

from onerest.books import check_book, check_state, fitting_rules
from onerest.errors import BadTree
from onerest.kinds import are_numbers_below
from onerest.outcomes import check_settled
from onerest.readers import reader_by_first_ways
from onerest.trees import NO_PARENT, check_node, check_tree, is_tree_of
from onerest.wishes import path_to


def check_open_tree(book, thing):
    """Raise BadBook, then BadTree, for objects that are no book and no open tree of it."""
    check_book(book)
    if not is_tree_of(book, thing) or not all([is_choice(book[0], choice) for choice in thing[2]]):
        raise BadTree("this object is no open tree of the book")


def is_choice(n, thing):
    """Whether the object is a tuple of one or more of n states, ascending and without duplicates."""
    if not isinstance(thing, tuple) or len(thing) == 0 or not are_numbers_below(thing, n):
        return False
    return list(thing) == sorted(set(thing))


def possible_rests(book, open_tree):
    """For each node the list of its states in the rests of all fillings, ascending."""
    check_open_tree(book, open_tree)
    check_settled(book)
    outside, parents, choices = open_tree
    starts, rows = reader_by_first_ways(book)
    rests = []
    rows_below = []
    for node, parent in enumerate(parents):
        # What is above a node bears on it by the row only, and its own choice is free of that.
        met = [starts[outside]] if parent == NO_PARENT else rows_below[parent]
        pairs = [rows[row][state] for row in met for state in choices[node]]
        rests.append(sorted(set([rest for rest, _ in pairs])))
        rows_below.append(sorted(set([below for _, below in pairs])))
    return rests


def filling_for(book, open_tree, node, state):
    """The first filling in whose rest the node is in this state, None if there is none."""
    check_open_tree(book, open_tree)
    check_node(open_tree, node)
    check_state(book, state)
    check_settled(book)
    outside, parents, choices = open_tree
    starts, rows = reader_by_first_ways(book)
    path = path_to(parents, node)
    row = starts[outside]
    states = [choice[0] for choice in choices]
    for above, fitting in zip(path, choices_on_path(rows, [choices[k] for k in path], state)):
        if fitting[row] == []:
            return None
        states[above] = fitting[row][0]
        row = rows[row][states[above]][1]
    return (outside, parents, tuple(states))


def choices_on_path(rows, choices, wanted):
    """For each node of a path, and each row that reads it, its choices that can let the last node rest as wanted."""
    table = [[[own for own in choices[-1] if row[own][0] == wanted] for row in rows]]
    for choice in choices[:-1][::-1]:
        table.append([[own for own in choice if table[-1][row[own][1]] != []] for row in rows])
    return table[::-1]


def count_sources(book, tree):
    """How many trees with the same outside and parents have this tree as their rest."""
    check_tree(book, tree)
    check_settled(book)
    outside, parents, states = tree
    starts, rows = reader_by_first_ways(book)
    return count_trees(
        parents, starts[outside], len(rows),
        lambda node, row: [below for rest, below in rows[row] if rest == states[node]],
    )


def count_rests(book, tree):
    """How many trees with the same outside and parents are at rest."""
    check_tree(book, tree)
    n = book[0]
    outside, parents, _ = tree
    quiet = [[own for own in range(n) if fitting_rules(book, above, own) == []] for above in range(n)]
    return count_trees(parents, outside, n, lambda node, above: quiet[above])


def count_trees(parents, start, many, choices):
    """How many ways there are to choose for each node one of choices(node, key).

    The key of a root is start, that of another node the choice of its parent; all keys are
    numbers below many. A choice that stands twice counts twice.
    """
    below = [[1] * many for _ in parents]
    counted = 1
    for node in range(len(parents) - 1, -1, -1):
        ways = [sum([below[node][choice] for choice in choices(node, key)]) for key in range(many)]
        if parents[node] == NO_PARENT:
            counted = counted * ways[start]
        else:
            below[parents[node]] = [held * more for held, more in zip(below[parents[node]], ways)]
    return counted
