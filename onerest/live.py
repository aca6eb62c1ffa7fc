"""A live tree: one that changes step by step and by hand, and whose changes can be taken back."""

from onerest.books import check_state
from onerest.ends import check_ends
from onerest.errors import NoNode, NothingToUndo
from onerest.kinds import is_number_below, is_tuple_of
from onerest.readers import run_from_top
from onerest.trees import check_node, check_parent, check_room, check_tree, fire_step, with_node, with_state


class Live:
    """A book, which never changes, and the current tree."""

    def __init__(self, book, tree):
        check_tree(book, tree)
        self._book = book
        self._tree = tree
        # The tree before each change that can be taken back, the last one at the end.
        self._before = []

    def __getitem__(self, node):
        check_node(self._tree, node)
        return self._tree[2][node]

    def __setitem__(self, node, state):
        self._become(self._with_state(self._tree, node, state))

    def __contains__(self, thing):
        return is_number_below(thing, len(self))

    def __len__(self):
        return len(self._tree[1])

    def __iter__(self):
        raise TypeError("a live tree is not iterated over")

    def __eq__(self, other):
        return isinstance(other, Live) and self._book == other._book and self._tree == other._tree

    def fire(self, node, rule):
        """Take the step (node, rule)."""
        self._become(fire_step(self._book, self._tree, (node, rule)))

    def add(self, parent, state):
        """Add a node below the parent, or a root for -1, and return its number."""
        check_parent(self._tree, parent)
        check_state(self._book, state)
        check_room(self._tree)
        self._become(with_node(self._tree, parent, state))
        return len(self) - 1

    def settle(self):
        """Take the first way of each node, by their numbers, and return the list of the steps."""
        check_ends(self._book)
        steps, rest = run_from_top(self._book, self._tree)
        self._become(rest)
        return steps

    def apply(self, changes):
        """Set states by hand, (node, state) by (node, state): all of them, or none if one raises an error."""
        tree = self._tree
        for change in changes:
            if not is_tuple_of(change, 2):
                raise NoNode("this object is no tuple of a node and a state")
            node, state = change
            tree = self._with_state(tree, node, state)
        self._become(tree)

    def undo(self):
        """Take back the last change that has not been taken back."""
        if self.changes() == 0:
            raise NothingToUndo("there is no change to take back")
        self._tree = self._before.pop()

    def tree(self):
        """The current tree."""
        return self._tree

    def changes(self):
        """The number of changes that can be taken back."""
        return len(self._before)

    def copy(self):
        """Another Live with the same book, an equal tree and the same changes to take back."""
        other = Live(self._book, self._tree)
        other._before = list(self._before)
        return other

    def _with_state(self, tree, node, state):
        """The tree with another state of a node; NoNode, then BadState."""
        check_node(tree, node)
        check_state(self._book, state)
        return with_state(tree, node, state)

    def _become(self, tree):
        """Make this the current tree, by a change that can be taken back."""
        self._before.append(self._tree)
        self._tree = tree
