"""A live tree: points 42 and 43."""

import inspect
import random
import unittest

from onerest.errors import BadBook, BadState, BadStep, BadTree, NoEnd, NoNode, NothingToUndo, TooMany
from onerest.live import Live
from onerest.readers import rest_of
from onerest.trees import enabled_steps, fire_step, is_tree, run_steps
from onerest.ways import first_way
from tests.brute import has_ring_by_the_words, random_books, tree_behind_steps
from tests.checks import BOOK, TREE, check_order
from tests.samples import BIG, BOOKS, EXAMPLE, EXAMPLE_TREE, NO_NUMBERS, NO_NUMBERS_BELOW_TWO, OTHERS, SETTLED
from tests.samples import TWO_RESTS, TWO_STATES, line_of

TREE_OF_FOUR = (0, (-1, 0, 0, -1), (0, 1, 0, 0))
NO_CHANGES = [
    *OTHERS, (0,), (0, 0, 0), [0, 0], [0, 1], "00", {0: 1, 1: 0}, ((0, 0),), (0, 0, 1), {0, 1}, range(2),
]


def random_tree(chance, n, nodes):
    parents = tuple(chance.randrange(max(-1, node - 3), node) for node in range(nodes))
    return (chance.randrange(n), parents, tuple(chance.randrange(n) for _ in range(nodes)))


class Making(unittest.TestCase):
    def test_the_tree_it_is_made_with(self):
        live = Live(EXAMPLE, EXAMPLE_TREE)
        self.assertEqual(live.tree(), EXAMPLE_TREE)
        self.assertIsInstance(live.tree(), tuple)
        self.assertEqual((live.changes(), len(live)), (0, 2))
        self.assertEqual(Live(tree=EXAMPLE_TREE, book=EXAMPLE), live)
        for book in BOOKS:
            self.assertEqual(Live(book, (0, (), ())).tree(), (0, (), ()))

    def test_errors(self):
        check_order(self, Live, [BOOK, TREE])
        for thing in (Live(EXAMPLE, EXAMPLE_TREE), [*EXAMPLE_TREE]):
            with self.assertRaises(BadTree):
                Live(EXAMPLE, thing)
        with self.assertRaises(BadBook):
            Live(Live(EXAMPLE, EXAMPLE_TREE), None)

    def test_the_parameters(self):
        live = Live(EXAMPLE, EXAMPLE_TREE)
        for found, names in (
            (Live, ["book", "tree"]), (live.fire, ["node", "rule"]), (live.add, ["parent", "state"]),
            (live.settle, []), (live.apply, ["changes"]), (live.undo, []), (live.tree, []), (live.changes, []),
            (live.copy, []),
        ):
            self.assertEqual(list(inspect.signature(found).parameters), names)


class Asking(unittest.TestCase):
    def test_items(self):
        for states in ((0, 1), (1, 0)):
            live = Live(EXAMPLE, (1, (-1, 0), states))
            self.assertEqual((live[0], live[1]), states)
            for thing in (*NO_NUMBERS_BELOW_TWO, slice(0, 1)):
                with self.assertRaises(NoNode):
                    live[thing]
        with self.assertRaises(NoNode):
            Live(EXAMPLE, (0, (), ()))[0]

    def test_in_and_len(self):
        for nodes in (0, 1, 2, 250):
            live = Live(EXAMPLE, line_of(nodes))
            self.assertEqual(len(live), nodes)
            for node in range(252):
                self.assertIs(node in live, node < nodes)
            for thing in (*NO_NUMBERS, -1, BIG, -BIG):
                self.assertIs(thing in live, False)

    def test_it_is_not_gone_over(self):
        with self.assertRaises(TypeError):
            list(Live(EXAMPLE, EXAMPLE_TREE))

    def test_equal(self):
        live = Live(EXAMPLE, EXAMPLE_TREE)
        other = Live(EXAMPLE, (1, (-1, 0), (1, 1)))
        self.assertTrue(live == Live(EXAMPLE, EXAMPLE_TREE))
        self.assertFalse(live != Live(EXAMPLE, EXAMPLE_TREE))
        self.assertFalse(live == other)
        self.assertTrue(live != other)
        self.assertFalse(live == Live((2, ()), EXAMPLE_TREE))
        self.assertFalse(live == Live((2, (*EXAMPLE[1], (0, 0, 1, (0, 0)))), EXAMPLE_TREE))
        live.settle()
        # The changes that can be taken back do not count.
        self.assertTrue(live == other)
        for node in (0, 1):
            other[node] = 0
            self.assertFalse(live == other)
            other.undo()

    def test_equal_to_nothing_else(self):
        live = Live(EXAMPLE, EXAMPLE_TREE)
        for thing in [*OTHERS, EXAMPLE_TREE, (EXAMPLE, EXAMPLE_TREE), EXAMPLE]:
            self.assertFalse(live == thing)
            self.assertTrue(live != thing)


class Changing(unittest.TestCase):
    def test_by_hand(self):
        live = Live(EXAMPLE, EXAMPLE_TREE)
        live[1] = 0
        self.assertEqual(live.tree(), (1, (-1, 0), (0, 0)))
        live[0] = 1
        self.assertEqual(live.tree(), (1, (-1, 0), (1, 0)))
        live[0] = 1
        self.assertEqual((live.tree(), live.changes()), ((1, (-1, 0), (1, 0)), 3))

    def test_errors_by_hand(self):
        live = Live(EXAMPLE, EXAMPLE_TREE)
        for node in (*NO_NUMBERS_BELOW_TWO, slice(0, 1)):
            for state in (0, 2, None):
                with self.assertRaises(NoNode):
                    live[node] = state
        for state in NO_NUMBERS_BELOW_TWO:
            with self.assertRaises(BadState):
                live[1] = state
        self.assertEqual((live.tree(), live.changes()), (EXAMPLE_TREE, 0))

    def test_fire(self):
        live = Live(EXAMPLE, EXAMPLE_TREE)
        self.assertIsNone(live.fire(0, 0))
        self.assertEqual(live.tree(), (1, (-1, 0), (1, 0)))
        live.fire(rule=0, node=1)
        self.assertEqual((live.tree(), live.changes()), ((1, (-1, 0), (1, 1)), 2))

    def test_steps_that_cannot_be_taken(self):
        live = Live(EXAMPLE, EXAMPLE_TREE)
        steps = [(1, 0), (0, 1), (2, 0), (-1, 0), (0, -1)]
        steps += [(thing, 0) for thing in NO_NUMBERS_BELOW_TWO] + [(0, thing) for thing in NO_NUMBERS_BELOW_TWO]
        steps += [(thing, thing) for thing in NO_NUMBERS_BELOW_TWO]
        for node, rule in steps:
            with self.assertRaises(BadStep) as caught:
                live.fire(node, rule)
            self.assertEqual(caught.exception.place, 0)
        self.assertEqual((live.tree(), live.changes()), (EXAMPLE_TREE, 0))

    def test_all_steps_of_random_trees(self):
        chance = random.Random(1)
        for book in BOOKS:
            for _ in range(20):
                live = Live(book, random_tree(chance, book[0], 6))
                for _ in range(5):
                    steps = enabled_steps(book, live.tree())
                    if steps:
                        step = chance.choice(steps)
                        after = fire_step(book, live.tree(), step)
                        live.fire(*step)
                        self.assertEqual(live.tree(), after)

    def test_add(self):
        live = Live(EXAMPLE, (1, (), ()))
        self.assertEqual(live.add(-1, 1), 0)
        self.assertEqual(live.add(0, 0), 1)
        self.assertEqual(live.add(state=1, parent=-1), 2)
        self.assertEqual(live.add(1, 1), 3)
        self.assertEqual((live.tree(), live.changes()), ((1, (-1, 0, -1, 1), (1, 0, 1, 1)), 4))

    def test_errors_of_add(self):
        live = Live(EXAMPLE, EXAMPLE_TREE)
        full = Live(EXAMPLE, line_of(250))
        for parent in (2, 3, -2, BIG, -BIG, *NO_NUMBERS):
            for state in (0, 2, None):
                with self.assertRaises(NoNode):
                    live.add(parent, state)
        for parent in (250, -2, None):
            for state in (0, 2):
                with self.assertRaises(NoNode):
                    full.add(parent, state)
        for state in NO_NUMBERS_BELOW_TWO:
            for parent in (-1, 0, 1):
                with self.assertRaises(BadState):
                    live.add(parent, state)
                with self.assertRaises(BadState):
                    full.add(parent, state)
        for parent in (-1, 0, 249):
            with self.assertRaises(TooMany):
                full.add(parent, 0)
        self.assertEqual((live.tree(), live.changes()), (EXAMPLE_TREE, 0))
        self.assertEqual((full.tree(), full.changes()), (line_of(250), 0))

    def test_add_up_to_250_nodes(self):
        live = Live(EXAMPLE, (0, (), ()))
        for node in range(250):
            self.assertEqual(live.add(node - 1, 0), node)
        self.assertEqual(live.tree(), line_of(250))
        with self.assertRaises(TooMany):
            live.add(-1, 0)
        self.assertTrue(is_tree(EXAMPLE, live.tree()))
        live.undo()
        self.assertEqual(live.add(-1, 0), 249)

    def test_apply(self):
        live = Live(EXAMPLE, TREE_OF_FOUR)
        changes = [(0, 1), (3, 1), (1, 1), (0, 0), (2, 1)]
        self.assertIsNone(live.apply(changes))
        self.assertEqual((live.tree(), live.changes()), ((0, (-1, 0, 0, -1), (0, 1, 1, 1)), 1))
        self.assertEqual(changes, [(0, 1), (3, 1), (1, 1), (0, 0), (2, 1)])
        live.apply(changes=[])
        self.assertEqual((live.tree(), live.changes()), ((0, (-1, 0, 0, -1), (0, 1, 1, 1)), 2))

    def test_after_an_error_of_apply_all_is_as_before(self):
        live = Live(EXAMPLE, EXAMPLE_TREE)
        live[0] = 1
        before = live.tree()
        cases = [((thing, 0), NoNode) for thing in NO_NUMBERS_BELOW_TWO]
        cases += [((thing, 2), NoNode) for thing in NO_NUMBERS_BELOW_TWO]
        cases += [((1, thing), BadState) for thing in NO_NUMBERS_BELOW_TWO]
        cases += [(thing, NoNode) for thing in NO_CHANGES]
        for change, error in cases:
            for changes in ([change], [(0, 0), change], [change, (0, 0)], [(1, 0), (0, 0), change, None, (1, 9)]):
                with self.assertRaises(error):
                    live.apply(changes)
                self.assertEqual((live.tree(), live.changes()), (before, 1))
        live.undo()
        self.assertEqual(live.tree(), EXAMPLE_TREE)

    def test_settle(self):
        live = Live(EXAMPLE, EXAMPLE_TREE)
        steps = live.settle()
        self.assertEqual(steps, [(0, 0), (1, 0)])
        self.assertEqual((live.tree(), live.changes()), ((1, (-1, 0), (1, 1)), 1))
        steps.append(None)
        self.assertEqual(live.settle(), [])
        self.assertEqual(live.changes(), 2)

    def test_settle_by_first_ways(self):
        # Not all of these books are settled.
        chance = random.Random(2)
        books = [TWO_RESTS, *SETTLED, *[book for book in random_books(3, 60, 3, 6) if not has_ring_by_the_words(book)]]
        for book in books:
            tree = random_tree(chance, book[0], 8)
            live = Live(book, tree)
            steps = live.settle()
            self.assertEqual(run_steps(book, tree, steps), live.tree())
            after = tree
            expected = []
            for node, parent in enumerate(tree[1]):
                above = after[0] if parent == -1 else after[2][parent]
                taken = [(node, rule) for rule in first_way(book, above, after[2][node])]
                after = tree_behind_steps(book, after, taken)
                expected += taken
            self.assertEqual(steps, expected)
            self.assertEqual(enabled_steps(book, live.tree()), [])
            if book in SETTLED:
                self.assertEqual(live.tree(), rest_of(book, tree))

    def test_settle_needs_an_end(self):
        for tree in (EXAMPLE_TREE, (0, (), ())):
            live = Live(TWO_STATES, tree)
            with self.assertRaises(NoEnd):
                live.settle()
            self.assertEqual((live.tree(), live.changes()), (tree, 0))


class TakingBack(unittest.TestCase):
    def test_each_kind_of_change(self):
        for change in (
            lambda live: live.fire(0, 0),
            lambda live: live.add(1, 1),
            lambda live: live.add(-1, 0),
            lambda live: live.settle(),
            lambda live: live.apply([(0, 1), (1, 1)]),
            lambda live: live.__setitem__(0, 1),
            # These change nothing.
            lambda live: live.__setitem__(0, 0),
            lambda live: live.apply([]),
            lambda live: live.apply([(0, 1), (0, 0)]),
        ):
            live = Live(EXAMPLE, (1, (-1, 0), (0, 0)))
            change(live)
            self.assertEqual(live.changes(), 1)
            self.assertIsNone(live.undo())
            self.assertEqual((live.tree(), live.changes(), len(live)), ((1, (-1, 0), (0, 0)), 0, 2))
            with self.assertRaises(NothingToUndo):
                live.undo()
            self.assertEqual(live.tree(), (1, (-1, 0), (0, 0)))

    def test_settle_that_changes_nothing(self):
        live = Live(EXAMPLE, (1, (-1, 0), (1, 0)))
        live.settle()
        live.settle()
        live.undo()
        self.assertEqual((live.tree(), live.changes()), ((1, (-1, 0), (1, 1)), 1))
        live.undo()
        self.assertEqual((live.tree(), live.changes()), ((1, (-1, 0), (1, 0)), 0))

    def test_nothing_to_undo(self):
        for book in BOOKS:
            with self.assertRaises(NothingToUndo):
                Live(book, (0, (), ())).undo()

    def test_what_raises_an_error_is_no_change(self):
        live = Live(EXAMPLE, EXAMPLE_TREE)
        live[1] = 0
        for error, change in (
            (BadStep, lambda: live.fire(1, 0)), (NoNode, lambda: live.add(2, 0)), (NoNode, lambda: live.apply([()])),
            (BadState, lambda: live.add(0, 2)), (NoNode, lambda: live.__setitem__(2, 0)),
            (BadState, lambda: live.apply([(0, 2)])),
        ):
            with self.assertRaises(error):
                change()
            self.assertEqual(live.changes(), 1)
        live.undo()
        self.assertEqual((live.tree(), live.changes()), (EXAMPLE_TREE, 0))

    def test_many_changes_and_back(self):
        chance = random.Random(4)
        for book in [TWO_STATES, TWO_RESTS, *SETTLED]:
            n = book[0]
            live = Live(book, random_tree(chance, n, 4))
            trees = [live.tree()]
            for _ in range(60):
                deed = chance.randrange(6)
                nodes = len(live)
                steps = enabled_steps(book, live.tree())
                if deed == 0:
                    live[chance.randrange(nodes)] = chance.randrange(n)
                elif deed == 1 and steps:
                    live.fire(*chance.choice(steps))
                elif deed == 2:
                    live.add(chance.randrange(-1, nodes), chance.randrange(n))
                elif deed == 3 and book != TWO_STATES:
                    live.settle()
                elif deed == 4:
                    live.apply([(chance.randrange(nodes), chance.randrange(n)) for _ in range(chance.randrange(4))])
                elif len(trees) > 1:
                    live.undo()
                    trees.pop()
                    self.assertEqual(live.tree(), trees[-1])
                    continue
                else:
                    continue
                trees.append(live.tree())
                self.assertEqual(live.changes(), len(trees) - 1)
            while len(trees) > 1:
                live.undo()
                trees.pop()
                self.assertEqual((live.tree(), live.changes()), (trees[-1], len(trees) - 1))
            with self.assertRaises(NothingToUndo):
                live.undo()


class Copies(unittest.TestCase):
    def test_the_same_tree_and_changes(self):
        live = Live(EXAMPLE, EXAMPLE_TREE)
        live.fire(0, 0)
        live.add(0, 1)
        other = live.copy()
        self.assertIsInstance(other, Live)
        self.assertTrue(other == live)
        self.assertEqual((other.tree(), other.changes()), (live.tree(), 2))
        other.undo()
        self.assertEqual(other.tree(), (1, (-1, 0), (1, 0)))
        other.undo()
        self.assertEqual(other.tree(), EXAMPLE_TREE)
        with self.assertRaises(NothingToUndo):
            other.undo()
        self.assertEqual((live.tree(), live.changes()), ((1, (-1, 0, 0), (1, 0, 1)), 2))

    def test_neither_changes_the_other_one(self):
        for first, second in ((0, 1), (1, 0)):
            pair = [Live(EXAMPLE, EXAMPLE_TREE)]
            pair[0].fire(0, 0)
            pair.append(pair[0].copy())
            before = (pair[second].tree(), pair[second].changes())
            pair[first][0] = 0
            pair[first].add(1, 1)
            pair[first].apply([(1, 1)])
            pair[first].settle()
            self.assertEqual((pair[second].tree(), pair[second].changes()), before)
            pair[second].undo()
            self.assertEqual(pair[second].tree(), EXAMPLE_TREE)
            for _ in range(5):
                pair[first].undo()
            self.assertEqual(pair[first].tree(), EXAMPLE_TREE)

    def test_the_same_book(self):
        other = Live(TWO_RESTS, (0, (-1, 0), (0, 0))).copy()
        self.assertEqual(other.settle(), [(0, 0)])
        self.assertFalse(other == Live(EXAMPLE, other.tree()))


class TreesThatArePassedOn(unittest.TestCase):
    def test_trees_of_other_books(self):
        live = Live((3, ()), (2, (-1,), (2,)))
        with self.assertRaises(BadTree):
            rest_of(EXAMPLE, live.tree())
        with self.assertRaises(BadTree):
            rest_of(EXAMPLE, live)
        self.assertEqual(rest_of((3, ()), live.tree()), live.tree())


if __name__ == "__main__":
    unittest.main()
