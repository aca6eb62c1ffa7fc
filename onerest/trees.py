"""Trees: tuples (outside, parents, states); the steps that can be taken in them, and runs."""

from onerest.books import check_book, fitting_rules
from onerest.errors import BadStep, BadTree, NoNode, TooMany
from onerest.kinds import are_numbers_below, is_integer_from, is_number_below, is_tuple_of

MOST_NODES = 250
NO_PARENT = -1


def is_tree(book, thing):
    """Whether the object is a tree of the book."""
    check_book(book)
    return is_tree_of(book, thing) and are_numbers_below(thing[2], book[0])


def is_tree_of(book, thing):
    """Whether the object is a tuple (outside, parents, entries), with any entries, one for each node."""
    if not is_tuple_of(thing, 3):
        return False
    outside, parents, entries = thing
    if not is_number_below(outside, book[0]) or not are_parents(parents):
        return False
    return is_tuple_of(entries, len(parents))


def are_parents(thing):
    """Whether the object is a tuple that tells the parent of each node of a tree."""
    if not isinstance(thing, tuple) or len(thing) > MOST_NODES:
        return False
    return all([is_integer_from(parent, NO_PARENT, node - 1) for node, parent in enumerate(thing)])


def line_of(outside, states):
    """The line with this outside and these states, from its root downward."""
    return (outside, tuple(range(NO_PARENT, len(states) - 1)), tuple(states))


def check_tree(book, thing):
    """Raise BadBook, then BadTree, for objects that are no book and no tree of it."""
    if not is_tree(book, thing):
        raise BadTree("this object is no tree of the book")


def check_node(tree, thing):
    """Raise NoNode for an object that is not the number of a node of the tree."""
    if not is_number_below(thing, len(tree[1])):
        raise NoNode("this object is not the number of a node")


def check_parent(tree, thing):
    """Raise NoNode for an object that is neither -1 nor the number of a node of the tree."""
    if not is_integer_from(thing, NO_PARENT, len(tree[1]) - 1):
        raise NoNode("this object is neither -1 nor the number of a node")


def check_room(tree):
    """Raise TooMany for a tree that has as many nodes as there may be."""
    if len(tree[1]) >= MOST_NODES:
        raise TooMany("the tree has as many nodes as there may be")


def with_outside(tree, outside):
    """The tree with another outside."""
    _, parents, states = tree
    return (outside, parents, states)


def with_state(tree, node, state):
    """The tree with another state of a node; nothing else changes."""
    outside, parents, states = tree
    return (outside, parents, (*states[:node], state, *states[node + 1:]))


def with_node(tree, parent, state):
    """The tree with one node more, which has the next number."""
    outside, parents, states = tree
    return (outside, (*parents, parent), (*states, state))


def state_above(book, tree, node):
    """The state of the node's parent, or the tree's outside for a root."""
    check_tree(book, tree)
    check_node(tree, node)
    return parent_state(tree, node)


def parent_state(tree, node):
    """As state_above, of a tree and a node that are known to be such."""
    outside, parents, states = tree
    if parents[node] == NO_PARENT:
        return outside
    return states[parents[node]]


def children_of(book, tree, node):
    """The numbers of the node's children, ascending."""
    check_tree(book, tree)
    check_node(tree, node)
    return [child for child, parent in enumerate(tree[1]) if parent == node]


def tree_depth(book, tree):
    """The greatest number of nodes on a path from a root downward, 0 for the empty tree."""
    check_tree(book, tree)
    depths = []
    for parent in tree[1]:
        depths.append(1 if parent == NO_PARENT else depths[parent] + 1)
    return max(depths, default=0)


def enabled_steps(book, tree):
    """All steps (node, rule) that can be taken in the tree, ascending."""
    check_tree(book, tree)
    return [
        (node, rule)
        for node, own in enumerate(tree[2])
        for rule in fitting_rules(book, parent_state(tree, node), own)
    ]


def fire_step(book, tree, step):
    """The tree behind one step; BadStep with place 0 if the object is none that can be taken."""
    return run_steps(book, tree, [step])


def run_steps(book, tree, steps):
    """The tree behind the steps of a list; BadStep for the first entry that cannot be taken then."""
    check_tree(book, tree)
    for place, step in enumerate(steps):
        if not can_be_taken(book, tree, step):
            raise BadStep(place)
        tree = tree_behind(book, tree, step)
    return tree


def can_be_taken(book, tree, thing):
    """Whether the object is a step that can be taken in the tree."""
    if not is_tuple_of(thing, 2):
        return False
    node, number = thing
    if not is_number_below(node, len(tree[1])) or not is_number_below(number, len(book[1])):
        return False
    return number in fitting_rules(book, parent_state(tree, node), tree[2][node])


def tree_behind(book, tree, step):
    """The tree behind a step that can be taken: the node and its children are set, nothing else."""
    outside, parents, states = tree
    node, number = step
    _, _, new, signal = book[1][number]
    after = [signal[state] if parent == node else state for parent, state in zip(parents, states)]
    after[node] = new
    return (outside, parents, tuple(after))


def is_at_rest(book, tree):
    """Whether no step can be taken in the tree."""
    return enabled_steps(book, tree) == []
