"""Initial states that are not known: points 38 and 39."""

import itertools
import random
import unittest

from onerest.errors import BadTree, NoEnd, NoNode, NoOneRest
from onerest.readers import reader_of, rest_of
from onerest.trees import is_at_rest
from onerest.unknown import count_rests, count_sources, filling_for, possible_rests
from tests.brute import rest_by_last_steps, settled_books, settled_books_of_two_states, steps_by_the_words
from tests.checks import BOOK, NODE, STATE, TREE, check_answers, check_needs
from tests.samples import BIG, BOOKS, EXAMPLE, EXAMPLE_TREE, NO_NUMBERS_BELOW_TWO, NO_TREES, OTHERS, SETTLED
from tests.samples import TWO_RESTS, TWO_STATES, line_of, misformed, paths_of, replaced

OPEN = (1, (-1, 0), ((0, 1), (0,)))
NO_CHOICES = [
    (), (1, 0), (0, 0), (1, 1), (0, 0, 1), (0, 1, 1), (0, 1, 0), (0, 1, 2), (-1, 0), (0, 2), (2,), (-1,), (0, BIG),
    [], [0], [0, 1], 0, 1, (True,), (False,), (0, True), (False, 1), ((0,),), (0, (1,)), "0", "01", (None,), None,
]
NO_OPEN_TREES = [
    *OTHERS,
    *NO_TREES,
    *misformed(OPEN),
    EXAMPLE_TREE,
    (1, (-1, 0), (0, (0,))),
    (1, (-1, 0), ((0,), 0)),
    (0, (-1,), ()), (0, (), ((0,),)), (0, (-1,), ((0,), (0,))), (2, (), ()), (0, (0,), ((0,),)),
    (0, (-2,), ((0,),)), (0, (-1, 1), ((0,), (0,))),
    (0, tuple(range(-1, 250)), ((0, 1),) * 251),
    *[(0, (-1,), (choice,)) for choice in NO_CHOICES],
    *[(0, (-1, 0, 1), ((0,), (0, 1), choice)) for choice in NO_CHOICES],
    *[(0, (-1,), ((state,),)) for state in NO_NUMBERS_BELOW_TWO],
    *[(outside, (-1,), ((0,),)) for outside in NO_NUMBERS_BELOW_TWO],
]
OPEN_TREE = (OPEN, NO_OPEN_TREES, BadTree)
NEEDS = [NoEnd, NoOneRest]


def settled_sample():
    yield from SETTLED
    yield from settled_books_of_two_states()[::40]
    yield from settled_books(81, 150, 3, 5)
    yield from settled_books(82, 100, 4, 6)


def random_parents(chance, nodes):
    return tuple(chance.randrange(max(-1, node - 3), node) for node in range(nodes))


def random_choice(chance, n):
    return tuple(sorted(chance.sample(range(n), chance.randrange(1, n + 1))))


def random_open_tree(chance, n, nodes):
    choices = tuple(random_choice(chance, n) for _ in range(nodes))
    return (chance.randrange(n), random_parents(chance, nodes), choices)


def fillings(open_tree):
    """All fillings, as tuples of states are ordered."""
    outside, parents, choices = open_tree
    for states in itertools.product(*choices):
        yield (outside, parents, states)


def all_alike(tree, n):
    """All trees with n states and the same outside and parents."""
    outside, parents, _ = tree
    return fillings((outside, parents, (tuple(range(n)),) * len(parents)))


class PossibleRests(unittest.TestCase):
    def test_the_example(self):
        self.assertEqual(possible_rests(EXAMPLE, OPEN), [[1], [1]])
        self.assertEqual(possible_rests(EXAMPLE, (0, *OPEN[1:])), [[0, 1], [0, 1]])
        self.assertEqual(possible_rests(EXAMPLE, (0, (-1, 0, -1), ((0,), (0, 1), (1,)))), [[0], [0, 1], [1]])

    def test_all_fillings(self):
        chance = random.Random(1)
        met = set()
        for book in settled_sample():
            open_tree = random_open_tree(chance, book[0], chance.randrange(6))
            rests = [rest_by_last_steps(book, tree)[2] for tree in fillings(open_tree)]
            expected = [sorted(set(states)) for states in zip(*rests)]
            self.assertEqual(possible_rests(book, open_tree), expected)
            met |= {len(states) for states in expected}
        self.assertEqual(met, {1, 2, 3, 4})

    def test_one_filling_only(self):
        chance = random.Random(2)
        for book in settled_sample():
            outside, parents, choices = random_open_tree(chance, book[0], 20)
            states = tuple(choice[0] for choice in choices)
            rest = rest_of(book, (outside, parents, states))[2]
            open_tree = (outside, parents, tuple((state,) for state in states))
            self.assertEqual(possible_rests(book, open_tree), [[state] for state in rest])

    def test_250_nodes(self):
        open_line = (0, line_of(250)[1], ((0,),) * 100 + ((0, 1),) + ((0,),) * 149)
        self.assertEqual(possible_rests(EXAMPLE, open_line), [[0]] * 100 + [[0, 1]] * 150)
        chance = random.Random(3)
        for book in SETTLED:
            open_tree = random_open_tree(chance, book[0], 250)
            found = possible_rests(book, open_tree)
            for _ in range(20):
                states = tuple(chance.choice(choice) for choice in open_tree[2])
                rest = rest_of(book, (*open_tree[:2], states))[2]
                self.assertTrue(all(state in states for state, states in zip(rest, found)))

    def test_no_nodes(self):
        for book in SETTLED:
            self.assertEqual(possible_rests(book, (0, (), ())), [])

    def test_answers(self):
        check_answers(self, possible_rests, [EXAMPLE, (0, *OPEN[1:])], ["book", "open_tree"])

    def test_lists_of_equal_nodes_are_not_one_list(self):
        found = possible_rests(EXAMPLE, (0, (-1, -1, 1), ((0, 1),) * 3))
        found[0].append(9)
        self.assertEqual(found[1:], [[0, 1], [0, 1]])

    def test_errors(self):
        check_needs(self, possible_rests, [BOOK, OPEN_TREE], NEEDS)

    def test_any_object_at_any_place(self):
        open_tree = (1, (-1, 0, 1), ((0, 1), (1,), (0,)))
        for path in paths_of(open_tree):
            for thing in [[], None, "0", (2,), -2, 3, True, False, [0], {}, ((), ())]:
                with self.assertRaises(BadTree):
                    possible_rests(EXAMPLE, replaced(open_tree, path, thing))


class FillingFor(unittest.TestCase):
    def test_the_example(self):
        self.assertEqual(filling_for(EXAMPLE, OPEN, 1, 1), (1, (-1, 0), (0, 0)))
        self.assertIsNone(filling_for(EXAMPLE, OPEN, 1, 0))
        below = (0, (-1, 0, 0), ((0, 1), (0, 1), (0, 1)))
        self.assertEqual(filling_for(EXAMPLE, below, 1, 0), (0, (-1, 0, 0), (0, 0, 0)))
        self.assertEqual(filling_for(EXAMPLE, below, 1, 1), (0, (-1, 0, 0), (0, 1, 0)))
        self.assertEqual(filling_for(EXAMPLE, below, 0, 1), (0, (-1, 0, 0), (1, 0, 0)))

    def test_the_first_of_all_fillings(self):
        chance = random.Random(4)
        none = 0
        for book in settled_sample():
            open_tree = random_open_tree(chance, book[0], chance.randrange(1, 6))
            rests = [(tree, rest_by_last_steps(book, tree)[2]) for tree in fillings(open_tree)]
            for node, state in itertools.product(range(len(open_tree[1])), range(book[0])):
                expected = next((tree for tree, rest in rests if rest[node] == state), None)
                self.assertEqual(filling_for(book, open_tree, node, state), expected)
                none += expected is None
        self.assertGreater(none, 20)

    def test_the_last_nodes_of_long_lines(self):
        open_line = (0, line_of(250)[1], ((0, 1),) * 250)
        self.assertEqual(filling_for(EXAMPLE, open_line, 249, 1), (0, open_line[1], (0,) * 249 + (1,)))
        self.assertEqual(filling_for(EXAMPLE, open_line, 249, 0), (0, open_line[1], (0,) * 250))
        open_line = (0, line_of(250)[1], ((0,),) * 50 + ((0, 1),) * 50 + ((0,),) * 150)
        self.assertEqual(filling_for(EXAMPLE, open_line, 249, 1), (0, open_line[1], (0,) * 99 + (1,) + (0,) * 150))

    def test_250_nodes(self):
        chance = random.Random(5)
        for book in SETTLED:
            open_tree = random_open_tree(chance, book[0], 250)
            possible = possible_rests(book, open_tree)
            for node in (0, 1, 100, 249):
                for state in range(book[0]):
                    found = filling_for(book, open_tree, node, state)
                    self.assertEqual(found is not None, state in possible[node])
                    if found is not None:
                        self.assertEqual(found[:2], open_tree[:2])
                        self.assertTrue(all(own in choice for own, choice in zip(found[2], open_tree[2])))
                        self.assertEqual(rest_of(book, found)[2][node], state)

    def test_answers(self):
        names = ["book", "open_tree", "node", "state"]
        check_answers(self, filling_for, [EXAMPLE, OPEN, 1, 1], names)
        check_answers(self, filling_for, [EXAMPLE, OPEN, 1, 0], names)

    def test_errors(self):
        check_needs(self, filling_for, [BOOK, OPEN_TREE, NODE, STATE], NEEDS)
        for node in (-1, 0, 1, None):
            with self.assertRaises(NoNode):
                filling_for(EXAMPLE, (0, (), ()), node, 9)


class CountSources(unittest.TestCase):
    def test_the_example(self):
        self.assertEqual(count_sources(EXAMPLE, (1, (-1, 0), (1, 1))), 4)
        self.assertEqual(count_sources(EXAMPLE, (1, (-1, 0), (1, 0))), 0)
        self.assertEqual(count_sources(EXAMPLE, (0, (-1, 0), (1, 1))), 2)
        self.assertEqual(count_sources(EXAMPLE, (0, (-1, 0), (0, 1))), 1)

    def test_all_trees_with_the_same_parents(self):
        chance = random.Random(6)
        met = set()
        for book in settled_sample():
            n = book[0]
            nodes = chance.randrange(5)
            shape = (chance.randrange(n), random_parents(chance, nodes), None)
            rests = [rest_by_last_steps(book, tree) for tree in all_alike(shape, n)]
            for tree in all_alike(shape, n):
                found = count_sources(book, tree)
                self.assertEqual(found, rests.count(tree))
                self.assertEqual(found > 0, not steps_by_the_words(book, tree))
                met.add(found)
        self.assertTrue({0, 1, 2, 3, 4} < met, met)

    def test_250_nodes(self):
        # Whatever a line begins in, below its outside 1 all its nodes come to 1.
        self.assertEqual(count_sources(EXAMPLE, line_of(250, 1, 1)), 2 ** 250)
        self.assertEqual(count_sources(EXAMPLE, line_of(250, 1, 0)), 0)
        self.assertEqual(count_sources(EXAMPLE, line_of(250, 0, 1)), 2 ** 249)
        self.assertEqual(count_sources(EXAMPLE, line_of(250, 0, 0)), 1)
        roots = (1, (-1,) * 250, (1,) * 250)
        self.assertEqual(count_sources(EXAMPLE, roots), 2 ** 250)
        for n in (1, 2, 3, 4):
            self.assertEqual(count_sources((n, ()), line_of(250)), 1)

    def test_sources_of_all_rests_are_all_trees(self):
        chance = random.Random(7)
        for book in SETTLED:
            n = book[0]
            for nodes in range(5):
                shape = (chance.randrange(n), random_parents(chance, nodes), None)
                self.assertEqual(sum(count_sources(book, tree) for tree in all_alike(shape, n)), n ** nodes)

    def test_sources_along_a_line_one_node_after_the_other(self):
        # On a line the sources are also counted downward: the words that a reader reads as the rest.
        chance = random.Random(8)
        for book in SETTLED:
            starts, rows = reader_of(book)
            line = rest_of(book, (0, line_of(250)[1], tuple(chance.randrange(book[0]) for _ in range(250))))
            ways = {starts[0]: 1}
            for state in line[2]:
                after = {}
                for row, many in ways.items():
                    for found, below in rows[row]:
                        if found == state:
                            after[below] = after.get(below, 0) + many
                ways = after
            self.assertEqual(count_sources(book, line), sum(ways.values()))

    def test_no_nodes(self):
        for book in SETTLED:
            self.assertEqual(count_sources(book, (0, (), ())), 1)

    def test_answers(self):
        check_answers(self, count_sources, [EXAMPLE, (1, (-1, 0), (1, 1))], ["book", "tree"])

    def test_errors(self):
        check_needs(self, count_sources, [BOOK, TREE], NEEDS)


class CountRests(unittest.TestCase):
    def test_the_example(self):
        self.assertEqual(count_rests(EXAMPLE, EXAMPLE_TREE), 1)
        self.assertEqual(count_rests(EXAMPLE, (0, (-1, 0), (0, 1))), 3)
        self.assertEqual(count_rests(EXAMPLE, (0, (-1, 0, 0), (0, 1, 1))), 5)

    def test_books_with_a_ring_and_with_two_rests(self):
        # Under a parent in state 0 neither state can stay, under one in state 1 only state 1 can.
        self.assertEqual(count_rests(TWO_STATES, (0, (-1, -1), (1, 1))), 0)
        self.assertEqual(count_rests(TWO_STATES, (1, (-1, 0, 0), (0, 1, 0))), 1)
        self.assertEqual(count_rests(TWO_RESTS, (0, (-1, 0, 1), (0, 0, 0))), 3)

    def test_all_trees_with_the_same_parents(self):
        chance = random.Random(9)
        for book in [*BOOKS * 5, *settled_sample()]:
            n = book[0]
            nodes = chance.randrange(6)
            states = tuple(chance.randrange(n) for _ in range(nodes))
            tree = (chance.randrange(n), random_parents(chance, nodes), states)
            expected = sum(not steps_by_the_words(book, other) for other in all_alike(tree, n))
            self.assertEqual(count_rests(book, tree), expected)

    def test_250_nodes(self):
        for n in (1, 2, 3, 4):
            self.assertEqual(count_rests((n, ()), line_of(250)), n ** 250)
        # A line under 0 that rests: so many nodes in state 0, and all below them in state 1.
        self.assertEqual(count_rests(EXAMPLE, line_of(250)), 251)
        # No node in state 1 under another one: the numbers of Fibonacci.
        one, two = 1, 2
        for _ in range(249):
            one, two = two, one + two
        self.assertEqual(count_rests((2, ((1, 1, 0, (0, 1)),)), line_of(250)), two)

    def test_all_rests_have_sources(self):
        chance = random.Random(10)
        for book in SETTLED:
            n = book[0]
            for nodes in range(5):
                shape = (chance.randrange(n), random_parents(chance, nodes), (0,) * nodes)
                rests = [tree for tree in all_alike(shape, n) if count_sources(book, tree) > 0]
                self.assertEqual(count_rests(book, shape), len(rests))
                self.assertTrue(all(is_at_rest(book, tree) for tree in rests))

    def test_no_nodes(self):
        for book in BOOKS:
            self.assertEqual(count_rests(book, (0, (), ())), 1)

    def test_answers(self):
        check_answers(self, count_rests, [EXAMPLE, EXAMPLE_TREE], ["book", "tree"])

    def test_errors(self):
        check_needs(self, count_rests, [BOOK, TREE], [])


if __name__ == "__main__":
    unittest.main()
