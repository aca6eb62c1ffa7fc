"""Rounds: each node has its turn once, in a told order, and comes to rest under its parent then."""

from onerest.ends import check_ends
from onerest.errors import BadOrder
from onerest.kinds import are_numbers_below
from onerest.readers import way_end
from onerest.trees import NO_PARENT, check_tree, is_at_rest
from onerest.ways import way_by_least_numbers


def run_round(book, tree, *, order=None):
    """The tree behind one round by the order."""
    check_tree(book, tree)
    turns = turns_of(tree, order)
    check_ends(book)
    return tree_behind_round(book, tree, turns)


def count_rounds(book, tree, *, order=None):
    """How many rounds by the order it takes until the tree is at rest."""
    check_tree(book, tree)
    turns = turns_of(tree, order)
    check_ends(book)
    count = 0
    while not is_at_rest(book, tree):
        tree = tree_behind_round(book, tree, turns)
        count += 1
    return count


def turns_of(tree, order):
    """The nodes as they have their turns; BadOrder for an object that is neither an order nor None."""
    nodes = len(tree[1])
    if order is None:
        return list(range(nodes))
    if not isinstance(order, list) or len(order) != nodes or not are_numbers_below(order, nodes):
        raise BadOrder("this object is no order of the nodes")
    if len(set(order)) < nodes:
        raise BadOrder("a node stands twice in the order")
    return order


def tree_behind_round(book, tree, turns):
    """The tree behind the turns of these nodes; at its turn a node takes its first way."""
    outside, parents, states = tree
    children = [[] for _ in parents]
    for node, parent in enumerate(parents):
        if parent != NO_PARENT:
            children[parent].append(node)
    after = list(states)
    for node in turns:
        above = outside if parents[node] == NO_PARENT else after[parents[node]]
        way = way_by_least_numbers(book, above, after[node])
        after[node], signal = way_end(book, after[node], way)
        for child in children[node]:
            after[child] = signal[after[child]]
    return (outside, parents, tuple(after))
