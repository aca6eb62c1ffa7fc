"""Wishes: point 35."""

import itertools
import random
import unittest

from onerest.errors import BadState, NoEnd, NoNode, NoOneRest
from onerest.readers import rest_of
from onerest.wishes import least_changes, shortest_with
from tests.brute import lines_up_to, rest_by_last_steps, settled_books, settled_books_of_two_states
from tests.checks import BOOK, NODE, STATE, TREE, check_answers, check_needs
from tests.samples import EXAMPLE, EXAMPLE_TREE, FOUR_DOWN, ON_AND_ON, SETTLED, TWO_DOWN, line_of, line_of_states


def settled_sample():
    yield from SETTLED
    yield from settled_books_of_two_states()[::40]
    yield from settled_books(61, 200, 3, 5)
    yield from settled_books(62, 120, 4, 6)


def state_in_rest(book, tree, changes, node):
    outside, parents, states = tree
    states = list(states)
    for changed, state in changes:
        states[changed] = state
    return rest_by_last_steps(book, (outside, parents, tuple(states)))[2][node]


def all_changes(n, tree):
    """All lists of (node, state) with each node at most once, the shorter ones first, else as lists are ordered."""
    nodes = range(len(tree[2]))
    for many in range(len(nodes) + 1):
        yield from sorted(
            list(zip(chosen, states))
            for chosen in itertools.combinations(nodes, many) for states in itertools.product(range(n), repeat=many)
        )


class LeastChanges(unittest.TestCase):
    def test_the_example(self):
        self.assertEqual(least_changes(EXAMPLE, EXAMPLE_TREE, 1, 1), [])
        self.assertIsNone(least_changes(EXAMPLE, EXAMPLE_TREE, 1, 0))
        tree = (0, (-1, 0, 1), (0, 0, 0))
        self.assertEqual(least_changes(EXAMPLE, tree, 2, 0), [])
        # Each node may be set to 1, and the highest one comes first.
        self.assertEqual(least_changes(EXAMPLE, tree, 2, 1), [(0, 1)])
        self.assertEqual(least_changes(EXAMPLE, (0, (-1, 0, 1), (1, 1, 0)), 2, 0), [(0, 0), (1, 0)])

    def test_only_the_nodes_above(self):
        tree = (0, (-1, -1, 0, 1, 0), (0, 1, 0, 0, 0))
        self.assertEqual(least_changes(EXAMPLE, tree, 3, 0), [(1, 0)])
        self.assertEqual(least_changes(EXAMPLE, tree, 4, 1), [(0, 1)])
        self.assertEqual(least_changes(EXAMPLE, tree, 3, 1), [])

    def test_the_first_of_the_shortest_lists(self):
        chance = random.Random(1)
        met = set()
        for book in settled_sample():
            n = book[0]
            nodes = 4 if n < 4 else 3
            parents = tuple(chance.choice((-1, node - 1, node - 1)) for node in range(nodes))
            tree = (chance.randrange(n), parents, tuple(chance.randrange(n) for _ in range(nodes)))
            for node in {nodes - 1, chance.randrange(nodes)}:
                for state in range(n):
                    expected = self.first_by_trying(book, tree, node, state)
                    self.assertEqual(least_changes(book, tree, node, state), expected)
                    met.add(None if expected is None else len(expected))
        self.assertTrue({None, 0, 1, 2} <= met, met)

    def first_by_trying(self, book, tree, node, state):
        for changes in all_changes(book[0], tree):
            if state_in_rest(book, tree, changes, node) == state:
                return changes
        return None

    def test_long_lines(self):
        chance = random.Random(2)
        for book in SETTLED:
            n = book[0]
            line = line_of_states(chance.randrange(n), [chance.randrange(n) for _ in range(250)])
            for state in range(n):
                found = least_changes(book, line, 249, state)
                if found is not None:
                    self.assertEqual(found, sorted(found))
                    states = [dict(found).get(node, own) for node, own in enumerate(line[2])]
                    self.assertEqual(rest_of(book, line_of_states(line[0], states))[2][249], state)
        self.assertEqual(least_changes(EXAMPLE, line_of(250), 249, 1), [(0, 1)])
        self.assertEqual(least_changes(EXAMPLE, line_of(250, 0, 1), 249, 0), [(node, 0) for node in range(250)])
        self.assertIsNone(least_changes(EXAMPLE, line_of(250, 1, 1), 249, 0))

    def test_kinds(self):
        found = least_changes(EXAMPLE, (0, (-1, 0), (1, 1)), 1, 0)
        self.assertEqual((type(found), {type(change) for change in found}), (list, {tuple}))

    def test_answers(self):
        arguments = [EXAMPLE, (0, (-1, 0), (1, 1)), 1, 0]
        check_answers(self, least_changes, arguments, ["book", "tree", "node", "state"])

    def test_errors(self):
        check_needs(self, least_changes, [BOOK, TREE, NODE, STATE], [NoEnd, NoOneRest])
        for node, state in itertools.product((-1, 0, 1, None), (0, 9)):
            with self.assertRaises(NoNode):
                least_changes(EXAMPLE, (0, (), ()), node, state)


class ShortestWith(unittest.TestCase):
    def test_one_node(self):
        # The parent's state of a root is outside.
        self.assertEqual(shortest_with(EXAMPLE, 0, 0, 0), (0, (-1,), (0,)))
        self.assertEqual(shortest_with(EXAMPLE, 0, 0, 1), (0, (-1,), (1,)))
        self.assertEqual(shortest_with(EXAMPLE, 1, 1, 1), (1, (-1,), (0,)))

    def test_two_nodes(self):
        self.assertEqual(shortest_with(EXAMPLE, 0, 1, 1), (0, (-1, 0), (1, 0)))
        self.assertEqual(shortest_with((2, ()), 0, 1, 0), (0, (-1, 0), (1, 0)))
        self.assertEqual(shortest_with((2, ()), 1, 1, 0), (1, (-1,), (0,)))

    def test_none(self):
        self.assertIsNone(shortest_with(EXAMPLE, 0, 1, 0))
        for above, own in ((0, 0), (0, 1), (1, 0)):
            self.assertIsNone(shortest_with(EXAMPLE, 1, above, own))

    def test_the_first_of_the_shortest_lines(self):
        met = set()
        for book in settled_sample():
            n = book[0]
            first = {}
            for line in lines_up_to(n, 5 if n < 4 else 4):
                rest = rest_by_last_steps(book, line)
                above, own = ([line[0]] + list(rest[2]))[-2:]
                first.setdefault((line[0], above, own), line)
            for key in itertools.product(range(n), repeat=3):
                found = shortest_with(book, *key)
                self.assertEqual(found, first.get(key), (book, key))
                met.add(None if found is None else len(found[2]))
        self.assertTrue({None, 1, 2, 3} <= met, met)

    def test_answers(self):
        arguments = [EXAMPLE, 0, 1, 1]
        check_answers(self, shortest_with, arguments, ["book", "outside", "above", "own"])

    def test_errors(self):
        check_needs(self, shortest_with, [BOOK, STATE, STATE, STATE], [NoEnd, NoOneRest])
        for book in (TWO_DOWN, ON_AND_ON, FOUR_DOWN):
            for place in range(3):
                with self.assertRaises(BadState):
                    shortest_with(book, *[book[0] if k == place else 0 for k in range(3)])


if __name__ == "__main__":
    unittest.main()
