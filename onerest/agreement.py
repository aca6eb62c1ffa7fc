"""Which nodes agree, and the lines of nodes in which two runs can part.

A twin is a tuple (above, one, other): two nodes in states one and other, with equal
subtrees under them, under one parent in state above. A fork is a tuple (outside, states,
one, other): the beginning of a line, and two lists of steps that lead from it to trees
whose rests must be equal if every tree has one rest. In all functions here the book is
known to be one whose runs end.
"""

from onerest.trees import line_of, tree_behind
from onerest.ways import results_of


def results_table(book):
    """For each (above, own, child) the list of node_results."""
    states = range(book[0])
    return {
        (above, own, child): results_of(book, above, own, child)
        for above in states for own in states for child in states
    }


def all_twins(n):
    """All tuples of three states, ascending."""
    states = range(n)
    return [(above, one, other) for above in states for one in states for other in states]


def twins_below(table, twins, child, other_child):
    """The twins that the children of twins become, None if nodes of a twin can rest in unlike states.

    The children of the first nodes of the twins are in state child, and those of the
    second ones in state other_child.
    """
    found = {}
    for above, one, other in twins:
        for rest, state in table[(above, one, child)]:
            for other_rest, other_state in table[(above, other, other_child)]:
                if rest != other_rest:
                    return None
                found[(rest, state, other_state)] = True
    return list(found)


def unlike_depths(n, table):
    """For each twin that does not agree the fewest nodes, from the twin downward, that show it."""
    below = {twin: [twins_below(table, [twin], child, child) for child in range(n)] for twin in all_twins(n)}
    depths = {}
    depth = 0
    found = list(below)
    while found != []:
        depth += 1
        found = [twin for twin in below if twin not in depths and is_unlike_below(depths, below[twin])]
        for twin in found:
            depths[twin] = depth
    return depths


def is_unlike_below(depths, below):
    """Whether a twin, with the twins below it for each state of a child, is known not to agree."""
    return any([twins is None or any([twin in depths for twin in twins]) for twins in below])


def forks_of(book):
    """All forks: no step against no step, then rules one node and two nodes apart."""
    states = range(book[0])
    forks = [(above, (own,), [], []) for above in states for own in states]
    for number, rule in enumerate(book[1]):
        for low_number, low_rule in enumerate(book[1]):
            forks.extend(forks_of_rules(book[0], (number, rule), (low_number, low_rule)))
    return forks


def forks_of_rules(n, high, low):
    """The forks in which one rule fires on the first node of a line and the other one below it."""
    number, (outside, own, _, _) = high
    low_number, (low_above, low_own, _, _) = low
    forks = []
    for last in range(n):
        if low_above == own:
            forks.append((outside, (own, low_own, last), [(0, number)], [(1, low_number), (0, number)]))
        between = (own, low_above, low_own, last)
        forks.append((outside, between, [(0, number)], [(2, low_number), (0, number)]))
    return forks


def parting_of(book, table, fork):
    """How far the two trees of a fork, run from the top, stay alike: a tuple (nodes, twins).

    twins is None if the rests of the node with the number nodes - 1 can be unlike; else they
    are what the last node of the fork becomes, with so many nodes above it.
    """
    outside, states, one, other = fork
    one_states = states_behind(book, outside, states, one)
    other_states = states_behind(book, outside, states, other)
    twins = [(outside, one_states[0], other_states[0])]
    for place in range(1, len(states)):
        twins = twins_below(table, twins, one_states[place], other_states[place])
        if twins is None:
            return (place, None)
    return (len(states) - 1, twins)


def states_behind(book, outside, states, steps):
    """The states of a line behind steps that can be taken."""
    tree = line_of(outside, states)
    for step in steps:
        tree = tree_behind(book, tree, step)
    return tree[2]


def forks_agree(book, table, agreed):
    """Whether the two trees of each fork come to twins that are keys of agreed."""
    for fork in forks_of(book):
        twins = parting_of(book, table, fork)[1]
        if twins is None or not all([twin in agreed for twin in twins]):
            return False
    return True
