"""Rounds: point 40."""

import inspect
import itertools
import random
import unittest

from onerest.errors import BadOrder, NoEnd
from onerest.readers import rest_of
from onerest.rounds import count_rounds, run_round
from onerest.trees import is_at_rest, tree_depth
from tests.brute import all_books_that_end, has_ring_by_the_words, random_books, steps_by_the_words, tree_by_the_words
from tests.checks import BOOK, TREE, check_answers, check_order
from tests.samples import BIG, EXAMPLE, EXAMPLE_TREE, OTHERS, SETTLED, TWO_RESTS, TWO_STATES, line_of

# No orders of a tree with two nodes.
NO_ORDERS = [
    *[thing for thing in OTHERS if thing is not None],
    (0, 1), (1, 0), [0, 0], [1, 1], [0], [1], [], [0, 1, 0], [0, 1, 2], [1, 2], [-1, 0], [0, -1], [-2, -1],
    [0, True], [False, 1], [True, False], [0, BIG], [0, None], [0, "1"], ["0", "1"], "01", [[0, 1]], [[0], [1]],
    [(0, 1)], {0: 1, 1: 0}, {0, 1}, range(2), iter([0, 1]),
]


def round_by_the_words(book, tree, order):
    """Each node in its turn: as long as one of the steps that can be taken is on it, the first of these."""
    for node in order:
        steps = [step for step in steps_by_the_words(book, tree) if step[0] == node]
        while steps:
            tree = tree_by_the_words(book, tree, steps[0])
            steps = [step for step in steps_by_the_words(book, tree) if step[0] == node]
    return tree


def books_that_end():
    yield from SETTLED
    yield TWO_RESTS
    yield from itertools.islice(all_books_that_end(), 0, None, 30)
    for seed, n in ((91, 3), (92, 4)):
        yield from [book for book in random_books(seed, 120, n, 7) if not has_ring_by_the_words(book)]


def random_tree(chance, n, nodes):
    parents = tuple(chance.randrange(max(-1, node - 3), node) for node in range(nodes))
    return (chance.randrange(n), parents, tuple(chance.randrange(n) for _ in range(nodes)))


def random_order(chance, nodes):
    return chance.sample(range(nodes), nodes)


class RunRound(unittest.TestCase):
    def test_the_example(self):
        self.assertEqual(run_round(EXAMPLE, EXAMPLE_TREE), (1, (-1, 0), (1, 1)))
        self.assertEqual(run_round(EXAMPLE, EXAMPLE_TREE, order=[0, 1]), (1, (-1, 0), (1, 1)))
        self.assertEqual(run_round(EXAMPLE, EXAMPLE_TREE, order=[1, 0]), (1, (-1, 0), (1, 0)))
        self.assertEqual(run_round(EXAMPLE, EXAMPLE_TREE, order=None), (1, (-1, 0), (1, 1)))

    def test_the_rule_with_the_least_number(self):
        # Both rules take the node to 1, the first one its child to 0, the second one to 1.
        self.assertEqual(run_round(TWO_RESTS, (0, (-1, 0), (0, 0))), (0, (-1, 0), (1, 0)))
        turned = (2, TWO_RESTS[1][::-1])
        self.assertEqual(run_round(turned, (0, (-1, 0), (0, 0))), (0, (-1, 0), (1, 1)))

    def test_as_long_as_a_rule_can_fire(self):
        book = (4, ((0, 2, 3, (1, 1, 2, 3)), (0, 0, 1, (0, 1, 3, 3)), (0, 1, 2, (0, 2, 2, 0))))
        self.assertEqual(run_round(book, (0, (-1, 0, 0), (0, 1, 2))), (0, (-1, 0, 0), (3, 2, 1)))

    def test_random_trees_and_orders(self):
        chance = random.Random(1)
        unlike = 0
        for book in books_that_end():
            for nodes in (0, 1, 4, 9):
                tree = random_tree(chance, book[0], nodes)
                order = random_order(chance, nodes)
                found = run_round(book, tree, order=order)
                self.assertEqual(found, round_by_the_words(book, tree, order))
                in_turn = run_round(book, tree)
                self.assertEqual(in_turn, round_by_the_words(book, tree, range(nodes)))
                self.assertTrue(is_at_rest(book, in_turn))
                unlike += found != in_turn
        self.assertGreater(unlike, 20)

    def test_settled_books_come_to_the_rest(self):
        chance = random.Random(2)
        for book in SETTLED:
            tree = random_tree(chance, book[0], 250)
            self.assertEqual(run_round(book, tree), rest_of(book, tree))

    def test_answers(self):
        check_answers(self, run_round, [EXAMPLE, EXAMPLE_TREE], ["book", "tree"])


class CountRounds(unittest.TestCase):
    def test_the_example(self):
        self.assertEqual(count_rounds(EXAMPLE, EXAMPLE_TREE), 1)
        self.assertEqual(count_rounds(EXAMPLE, EXAMPLE_TREE, order=[1, 0]), 2)
        self.assertEqual(count_rounds(EXAMPLE, EXAMPLE_TREE, order=[0, 1]), 1)
        self.assertEqual(count_rounds(EXAMPLE, EXAMPLE_TREE, order=None), 1)

    def test_at_rest_at_the_beginning(self):
        for tree in ((1, (-1, 0), (1, 1)), (0, (-1, 0), (0, 0)), (0, (-1, -1), (1, 0))):
            for order in (None, [0, 1], [1, 0]):
                self.assertEqual(count_rounds(EXAMPLE, tree, order=order), 0)
        self.assertEqual(count_rounds(EXAMPLE, (1, (), ())), 0)
        self.assertEqual(count_rounds(EXAMPLE, (1, (), ()), order=[]), 0)

    def test_random_trees_and_orders(self):
        chance = random.Random(3)
        met = set()
        for book in books_that_end():
            for nodes in (0, 1, 5, 10):
                tree = random_tree(chance, book[0], nodes)
                order = random_order(chance, nodes)
                found = count_rounds(book, tree, order=order)
                expected, behind = 0, tree
                while steps_by_the_words(book, behind):
                    behind = round_by_the_words(book, behind, order)
                    expected += 1
                self.assertEqual(found, expected)
                self.assertLessEqual(found, tree_depth(book, tree))
                self.assertEqual(count_rounds(book, tree), min(found, 1))
                met.add(found)
        self.assertTrue({0, 1, 2, 3} <= met, met)

    def test_250_nodes(self):
        line = line_of(250, 1, 0)
        upward = list(range(249, -1, -1))
        self.assertEqual(count_rounds(EXAMPLE, line, order=upward), 250)
        self.assertEqual(count_rounds(EXAMPLE, line), 1)
        # The node that begins in state 1 is told to begin in 0, and all below it are told so in turn.
        self.assertEqual(count_rounds(EXAMPLE, (1, line[1], (0, *(1,) * 249)), order=upward), 250)
        self.assertEqual(count_rounds(EXAMPLE, (1, (-1,) * 250, (0,) * 250), order=upward), 1)

    def test_answers(self):
        check_answers(self, count_rounds, [EXAMPLE, EXAMPLE_TREE], ["book", "tree"])


class Orders(unittest.TestCase):
    def test_what_is_no_order(self):
        for asked in (run_round, count_rounds):
            for order in NO_ORDERS:
                for book in (EXAMPLE, TWO_RESTS, TWO_STATES):
                    with self.assertRaises(BadOrder):
                        asked(book, EXAMPLE_TREE, order=order)

    def test_of_trees_with_other_numbers_of_nodes(self):
        for asked in (run_round, count_rounds):
            for order in ([0], (), "", 0, False, {}):
                with self.assertRaises(BadOrder):
                    asked(EXAMPLE, (0, (), ()), order=order)
            for order in (list(range(249)), list(range(251)), [*range(249), 0], tuple(range(250))):
                with self.assertRaises(BadOrder):
                    asked(EXAMPLE, line_of(250), order=order)
            asked(EXAMPLE, (0, (), ()), order=[])
            asked(EXAMPLE, line_of(250), order=list(range(250)))

    def test_by_name_only(self):
        for asked in (run_round, count_rounds):
            parameter = inspect.signature(asked).parameters["order"]
            self.assertEqual(parameter.kind, inspect.Parameter.KEYWORD_ONLY)
            self.assertIsNone(parameter.default)
            with self.assertRaises(TypeError):
                asked(EXAMPLE, EXAMPLE_TREE, [0, 1])
            named = asked(order=[1, 0], tree=EXAMPLE_TREE, book=EXAMPLE)
            self.assertEqual(named, asked(EXAMPLE, EXAMPLE_TREE, order=[1, 0]))

    def test_the_order_stays_as_it_is(self):
        for asked in (run_round, count_rounds):
            order = [1, 0]
            asked(EXAMPLE, EXAMPLE_TREE, order=order)
            self.assertEqual(order, [1, 0])

    def test_the_order_of_errors(self):
        for asked in (run_round, count_rounds):
            for order in ([0, 1], None, (0, 1), BIG):
                def with_order(book, tree):
                    return asked(book, tree, order=order)
                check_order(self, with_order, [BOOK, TREE])
            for order in ([0, 1], [1, 0], None):
                with self.assertRaises(NoEnd):
                    asked(TWO_STATES, EXAMPLE_TREE, order=order)
            with self.assertRaises(NoEnd):
                asked(TWO_STATES, (0, (), ()))


if __name__ == "__main__":
    unittest.main()
