"""Trees and what is asked of their nodes: points 7 and 8."""

import unittest

from onerest.errors import BadBook, BadTree, NoNode
from onerest.trees import children_of, is_tree, state_above, tree_depth
from tests.samples import BIG, BOOKS, EXAMPLE, EXAMPLE_TREE, FOUR_STATES, NO_BOOKS, NO_NUMBERS, NO_TREES
from tests.samples import ONE_STATE, OTHERS, THREE_STATES, TWO_STATES, all_trees, line_of, misformed, replaced

#   0     3
#  / \    |
# 1   2   4
#     |
#     5 and 6
FOREST = (2, (-1, 0, 0, -1, 3, 2, 2), (0, 1, 2, 1, 0, 2, 1))

class IsTree(unittest.TestCase):
    def test_the_empty_tree(self):
        for book in BOOKS:
            for outside in range(book[0]):
                self.assertIs(is_tree(book, (outside, (), ())), True)

    def test_a_line(self):
        for nodes in (1, 2, 3, 17):
            self.assertIs(is_tree(ONE_STATE, line_of(nodes)), True)
            self.assertIs(is_tree(FOUR_STATES, line_of(nodes, 3, 3)), True)

    def test_several_roots(self):
        self.assertIs(is_tree(THREE_STATES, FOREST), True)
        self.assertIs(is_tree(THREE_STATES, (0, (-1, -1, -1, -1), (0, 1, 2, 0))), True)

    def test_all_small_trees(self):
        for book in (ONE_STATE, EXAMPLE, THREE_STATES):
            for nodes in range(4):
                for tree in all_trees(book[0], nodes):
                    self.assertIs(is_tree(book, tree), True)

    def test_250_and_251_nodes(self):
        for parent in (-1, 0):
            for nodes, good in ((249, True), (250, True), (251, False), (252, False), (1000, False)):
                tree = (0, (-1,) + (parent,) * (nodes - 1), (0,) * nodes)
                self.assertIs(is_tree(EXAMPLE, tree), good)
        self.assertIs(is_tree(EXAMPLE, line_of(250)), True)
        self.assertIs(is_tree(EXAMPLE, line_of(251)), False)

    def test_a_parent_that_does_not_come_before_its_node(self):
        for node in range(4):
            for parent in range(-4, 7):
                tree = replaced(line_of(4), (1, node), parent)
                self.assertIs(is_tree(EXAMPLE, tree), -1 <= parent < node, tree)
        for parent in (BIG, -BIG):
            self.assertIs(is_tree(EXAMPLE, (0, (-1, parent), (0, 0))), False)

    def test_unlike_lengths(self):
        for parents in range(4):
            for states in range(4):
                tree = (0, (-1,) * parents, (0,) * states)
                self.assertIs(is_tree(EXAMPLE, tree), parents == states)

    def test_states_that_are_none(self):
        for book in BOOKS:
            n = book[0]
            for state in (-1, n, n + 1, BIG, -BIG, *NO_NUMBERS):
                self.assertIs(is_tree(book, (state, (), ())), False)
                self.assertIs(is_tree(book, (state, (-1,), (0,))), False)
                self.assertIs(is_tree(book, (0, (-1,), (state,))), False)
                self.assertIs(is_tree(book, (0, (-1, 0, 0), (0, 0, state))), False)

    def test_parents_that_are_no_numbers(self):
        for thing in NO_NUMBERS:
            self.assertIs(is_tree(EXAMPLE, (0, (thing,), (0,))), False)
            self.assertIs(is_tree(EXAMPLE, (0, (-1, 0, thing), (0, 0, 0))), False)

    def test_truths_and_lists_at_every_depth(self):
        for tree in (EXAMPLE_TREE, FOREST, (1, (), ()), (0, (-1, 0, 1), (1, 0, 1))):
            for thing in misformed(tree):
                with self.subTest(thing=thing):
                    self.assertIs(is_tree(THREE_STATES, thing), False)

    def test_other_objects(self):
        for thing in OTHERS:
            for book in BOOKS:
                self.assertIs(is_tree(book, thing), False)
        for place, thing in enumerate(OTHERS):
            empty = place == OTHERS.index(())
            self.assertIs(is_tree(EXAMPLE, (0, thing, ())), empty)
            self.assertIs(is_tree(EXAMPLE, (0, (), thing)), empty)

    def test_other_lengths(self):
        for thing in NO_TREES:
            self.assertIs(is_tree(TWO_STATES, thing), False)

    def test_bad_book_whatever_the_other_object_is(self):
        for book in NO_BOOKS:
            for thing in [EXAMPLE_TREE, *OTHERS]:
                with self.assertRaises(BadBook):
                    is_tree(book, thing)

    def test_by_name(self):
        self.assertIs(is_tree(book=EXAMPLE, thing=EXAMPLE_TREE), True)
        self.assertIs(is_tree(thing=EXAMPLE_TREE, book=ONE_STATE), False)


class StateAbove(unittest.TestCase):
    def test_roots_and_other_nodes(self):
        found = [state_above(THREE_STATES, FOREST, node) for node in range(7)]
        self.assertEqual(found, [2, 0, 0, 2, 1, 2, 2])

    def test_a_line(self):
        tree = (3, (-1, 0, 1, 2), (0, 2, 1, 3))
        self.assertEqual([state_above(FOUR_STATES, tree, node) for node in range(4)], [3, 0, 2, 1])

    def test_errors(self):
        check_errors(self, state_above)

    def test_by_name(self):
        self.assertEqual(state_above(book=EXAMPLE, tree=EXAMPLE_TREE, node=0), 1)
        self.assertEqual(state_above(node=1, tree=EXAMPLE_TREE, book=EXAMPLE), 0)


class ChildrenOf(unittest.TestCase):
    def test_none_and_several(self):
        found = [children_of(THREE_STATES, FOREST, node) for node in range(7)]
        self.assertEqual(found, [[1, 2], [], [5, 6], [4], [], [], []])

    def test_a_star(self):
        star = (0, (-1,) + (0,) * 249, (0,) * 250)
        self.assertEqual(children_of(ONE_STATE, star, 0), list(range(1, 250)))
        self.assertEqual(children_of(ONE_STATE, star, 249), [])

    def test_roots_are_children_of_no_node(self):
        roots = (0, (-1, -1, -1), (0, 0, 0))
        for node in range(3):
            self.assertEqual(children_of(EXAMPLE, roots, node), [])

    def test_the_list_is_new(self):
        found = children_of(THREE_STATES, FOREST, 0)
        found.clear()
        self.assertEqual(children_of(THREE_STATES, FOREST, 0), [1, 2])

    def test_errors(self):
        check_errors(self, children_of)

    def test_by_name(self):
        self.assertEqual(children_of(book=EXAMPLE, tree=EXAMPLE_TREE, node=0), [1])
        self.assertEqual(children_of(node=1, tree=EXAMPLE_TREE, book=EXAMPLE), [])


class TreeDepth(unittest.TestCase):
    def test_the_empty_tree(self):
        self.assertEqual(tree_depth(ONE_STATE, (0, (), ())), 0)
        self.assertEqual(tree_depth(THREE_STATES, (2, (), ())), 0)

    def test_a_line(self):
        for nodes in (1, 2, 3, 250):
            self.assertEqual(tree_depth(ONE_STATE, line_of(nodes)), nodes)

    def test_several_roots(self):
        self.assertEqual(tree_depth(THREE_STATES, FOREST), 3)
        self.assertEqual(tree_depth(EXAMPLE, (0, (-1, -1, -1), (0, 0, 0))), 1)
        self.assertEqual(tree_depth(EXAMPLE, (0, (-1, 0, 1, -1), (0, 0, 0, 0))), 3)
        self.assertEqual(tree_depth(EXAMPLE, (0, (-1, -1, 1, 2, 0), (0, 0, 0, 0, 0))), 3)

    def test_errors(self):
        for book in NO_BOOKS:
            for tree in (EXAMPLE_TREE, None):
                with self.assertRaises(BadBook):
                    tree_depth(book, tree)
        for tree in NO_TREES:
            with self.assertRaises(BadTree):
                tree_depth(TWO_STATES, tree)

    def test_by_name(self):
        self.assertEqual(tree_depth(book=EXAMPLE, tree=EXAMPLE_TREE), 2)
        self.assertEqual(tree_depth(tree=EXAMPLE_TREE, book=EXAMPLE), 2)


def check_errors(case, asked):
    """BadBook, then BadTree, then NoNode, of a function that takes book, tree and node."""
    for book in NO_BOOKS:
        for tree, node in ((EXAMPLE_TREE, 0), (None, 0), (None, None), (EXAMPLE_TREE, 9)):
            with case.assertRaises(BadBook):
                asked(book, tree, node)
    for tree in NO_TREES:
        for node in (0, 9, None):
            with case.assertRaises(BadTree):
                asked(TWO_STATES, tree, node)
    for node in (-1, -2, 2, 3, BIG, -BIG, *NO_NUMBERS):
        with case.assertRaises(NoNode):
            asked(EXAMPLE, EXAMPLE_TREE, node)
    for node in (0, -1, 1, True):
        with case.assertRaises(NoNode):
            asked(EXAMPLE, (0, (), ()), node)


if __name__ == "__main__":
    unittest.main()
