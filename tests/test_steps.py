"""Steps, runs and rest: points 5, 9 and 10, and the example of point 48."""

import copy
import unittest

from onerest.errors import BadStep
from onerest.trees import enabled_steps, fire_step, is_at_rest, run_steps
from tests.brute import small_trees, steps_by_the_words, tree_by_the_words
from tests.checks import check_book_and_tree
from tests.samples import BOOKS, EXAMPLE, EXAMPLE_TREE, FOUR_STATES, NO_STEPS, ONE_STATE
from tests.samples import THREE_STATES, TWO_STATES, line_of

SECOND_TREE = (1, (-1, 0), (1, 0))
THIRD_TREE = (1, (-1, 0), (1, 1))

class Example(unittest.TestCase):
    def test_the_steps_and_the_rest(self):
        self.assertEqual(enabled_steps(EXAMPLE, EXAMPLE_TREE), [(0, 0)])
        self.assertIs(is_at_rest(EXAMPLE, EXAMPLE_TREE), False)
        self.assertEqual(fire_step(EXAMPLE, EXAMPLE_TREE, (0, 0)), SECOND_TREE)
        self.assertEqual(enabled_steps(EXAMPLE, SECOND_TREE), [(1, 0)])
        self.assertIs(is_at_rest(EXAMPLE, SECOND_TREE), False)
        self.assertEqual(fire_step(EXAMPLE, SECOND_TREE, (1, 0)), THIRD_TREE)
        self.assertEqual(enabled_steps(EXAMPLE, THIRD_TREE), [])
        self.assertIs(is_at_rest(EXAMPLE, THIRD_TREE), True)
        self.assertEqual(run_steps(EXAMPLE, EXAMPLE_TREE, [(0, 0), (1, 0)]), THIRD_TREE)


class EnabledSteps(unittest.TestCase):
    def test_all_small_trees(self):
        for book in (ONE_STATE, EXAMPLE, TWO_STATES, THREE_STATES):
            for tree in small_trees(book):
                self.assertEqual(enabled_steps(book, tree), steps_by_the_words(book, tree))

    def test_ascending_by_node_then_by_rule(self):
        tree = (2, (-1, -1, 0, 1), (0, 0, 2, 2))
        steps = [(0, 0), (0, 2), (0, 4), (1, 0), (1, 2), (1, 4), (2, 1), (3, 1)]
        self.assertEqual(enabled_steps(THREE_STATES, tree), steps)

    def test_250_nodes(self):
        roots = (1, (-1,) * 250, (0,) * 250)
        self.assertEqual(enabled_steps(EXAMPLE, roots), [(node, 0) for node in range(250)])

    def test_the_empty_tree_and_the_book_without_rules(self):
        self.assertEqual(enabled_steps(EXAMPLE, (1, (), ())), [])
        self.assertEqual(enabled_steps(ONE_STATE, line_of(3)), [])

    def test_kinds(self):
        found = enabled_steps(EXAMPLE, EXAMPLE_TREE)
        self.assertIsInstance(found, list)
        self.assertIsInstance(found[0], tuple)

    def test_the_list_is_new(self):
        found = enabled_steps(EXAMPLE, EXAMPLE_TREE)
        found.append((7, 7))
        self.assertEqual(enabled_steps(EXAMPLE, EXAMPLE_TREE), [(0, 0)])

    def test_errors(self):
        check_book_and_tree(self, enabled_steps)

    def test_by_name(self):
        self.assertEqual(enabled_steps(book=EXAMPLE, tree=EXAMPLE_TREE), [(0, 0)])
        self.assertEqual(enabled_steps(tree=SECOND_TREE, book=EXAMPLE), [(1, 0)])


class FireStep(unittest.TestCase):
    def test_all_steps_of_small_trees(self):
        for book in (EXAMPLE, TWO_STATES, THREE_STATES):
            for tree in small_trees(book):
                able = steps_by_the_words(book, tree)
                for step in [(node, rule) for node in range(4) for rule in range(6)]:
                    if step in able:
                        self.assertEqual(fire_step(book, tree, step), tree_by_the_words(book, tree, step))
                    else:
                        with self.assertRaises(BadStep) as caught:
                            fire_step(book, tree, step)
                        self.assertEqual(caught.exception.place, 0)

    def test_the_node_and_its_children_and_nothing_else(self):
        # Node 1 fires: its children are 3 and 5; 2 is its sibling, 4 a grandchild, 6 a child of another node.
        tree = (3, (-1, 0, 0, 1, 3, 1, 2), (3, 0, 0, 0, 1, 3, 2))
        self.assertEqual(fire_step(FOUR_STATES, tree, (1, 0)), (3, (-1, 0, 0, 1, 3, 1, 2), (3, 3, 0, 3, 1, 0, 2)))
        self.assertEqual(fire_step(FOUR_STATES, tree, (1, 2)), (3, (-1, 0, 0, 1, 3, 1, 2), (3, 2, 0, 0, 1, 3, 2)))

    def test_other_roots_and_outside_stay(self):
        tree = (1, (-1, -1, 0, 1), (0, 0, 1, 1))
        self.assertEqual(fire_step(EXAMPLE, tree, (1, 0)), (1, (-1, -1, 0, 1), (0, 1, 1, 0)))
        self.assertEqual(fire_step(EXAMPLE, tree, (0, 0)), (1, (-1, -1, 0, 1), (1, 0, 0, 1)))

    def test_no_step_has_place_0(self):
        for thing in [*NO_STEPS, (1, 0)]:
            with self.assertRaises(BadStep) as caught:
                fire_step(EXAMPLE, EXAMPLE_TREE, thing)
            self.assertEqual(caught.exception.place, 0)
        with self.assertRaises(BadStep) as caught:
            fire_step(EXAMPLE, (1, (), ()), (0, 0))
        self.assertEqual(caught.exception.place, 0)

    def test_kinds(self):
        outside, parents, states = fire_step(EXAMPLE, EXAMPLE_TREE, (0, 0))
        self.assertIsInstance(fire_step(EXAMPLE, EXAMPLE_TREE, (0, 0)), tuple)
        self.assertEqual((type(outside), type(parents), type(states)), (int, tuple, tuple))

    def test_the_tree_stays_as_it_is(self):
        tree = (1, (-1, 0), (0, 1))
        fire_step(EXAMPLE, tree, (0, 0))
        self.assertEqual(tree, (1, (-1, 0), (0, 1)))

    def test_errors(self):
        check_book_and_tree(self, fire_step, (0, 0))
        check_book_and_tree(self, fire_step, None)

    def test_by_name(self):
        self.assertEqual(fire_step(book=EXAMPLE, tree=EXAMPLE_TREE, step=(0, 0)), SECOND_TREE)
        self.assertEqual(fire_step(step=(1, 0), tree=SECOND_TREE, book=EXAMPLE), THIRD_TREE)


class RunSteps(unittest.TestCase):
    def test_no_step(self):
        for book in BOOKS:
            for tree in ((0, (), ()), line_of(3), line_of(250)):
                self.assertEqual(run_steps(book, tree, []), tree)

    def test_several_steps(self):
        tree = (0, (-1, 0), (0, 0))
        for steps, states in (
            ([(0, 0)], (1, 1)),
            ([(0, 0), (0, 1)], (0, 1)),
            ([(0, 0), (0, 1), (1, 1)], (0, 0)),
            ([(1, 3), (0, 3)], (1, 0)),
            ([(1, 3), (0, 3), (1, 2)], (1, 1)),
        ):
            with self.subTest(steps=steps):
                self.assertEqual(run_steps(TWO_STATES, tree, steps), (0, (-1, 0), states))

    def test_all_runs_of_three_steps(self):
        tree = (2, (-1, 0), (0, 2))
        steps = [(node, rule) for node in range(3) for rule in range(6)]
        for one in steps:
            for two in steps:
                for three in steps:
                    self.check_run(THREE_STATES, tree, [one, two, three])

    def check_run(self, book, tree, steps):
        now = tree
        for place, step in enumerate(steps):
            if step not in steps_by_the_words(book, now):
                with self.assertRaises(BadStep) as caught:
                    run_steps(book, tree, steps)
                self.assertEqual(caught.exception.place, place)
                return
            now = tree_by_the_words(book, now, step)
        self.assertEqual(run_steps(book, tree, steps), now)

    def test_one_thousand_steps_and_some_more(self):
        # Rule 0 turns the states of the children round, and rule 1 leaves them as they are.
        tree = (0, (-1,) + (0,) * 249, (0,) * 250)
        turned = (0, tree[1], (0,) + (1,) * 249)
        for many, behind in ((1, turned), (499, turned), (500, tree), (501, turned)):
            self.assertEqual(run_steps(TWO_STATES, tree, [(0, 0), (0, 1)] * many), behind)

    def test_place_is_that_of_the_first_entry_that_cannot_be_taken(self):
        for thing in NO_STEPS:
            for steps, place in (
                ([thing], 0),
                ([thing, thing], 0),
                ([(0, 0), thing], 1),
                ([(0, 0), thing, thing, (1, 0)], 1),
                ([(0, 0), (1, 0), thing], 2),
            ):
                with self.assertRaises(BadStep) as caught:
                    run_steps(EXAMPLE, EXAMPLE_TREE, steps)
                self.assertEqual(caught.exception.place, place)

    def test_a_step_that_could_be_taken_only_earlier_or_later(self):
        for steps, place in (
            ([(1, 0)], 0),
            ([(1, 0), (0, 0)], 0),
            ([(0, 0), (0, 0)], 1),
            ([(0, 0), (1, 0), (0, 0)], 2),
            ([(0, 0), (1, 0), (1, 0)], 2),
        ):
            with self.assertRaises(BadStep) as caught:
                run_steps(EXAMPLE, EXAMPLE_TREE, steps)
            self.assertEqual(caught.exception.place, place)

    def test_the_list_and_the_tree_stay_as_they_are(self):
        tree = (1, (-1, 0), (0, 1))
        steps = [(0, 0), (1, 0)]
        held = copy.deepcopy((tree, steps))
        run_steps(EXAMPLE, tree, steps)
        self.assertEqual((tree, steps), held)
        steps.append((5, 5))
        held = copy.deepcopy((tree, steps))
        with self.assertRaises(BadStep):
            run_steps(EXAMPLE, tree, steps)
        self.assertEqual((tree, steps), held)

    def test_no_reference_to_the_list_is_kept(self):
        steps = [(0, 0), (1, 0)]
        found = run_steps(EXAMPLE, EXAMPLE_TREE, steps)
        steps.clear()
        self.assertEqual(found, THIRD_TREE)

    def test_errors(self):
        check_book_and_tree(self, run_steps, [])
        check_book_and_tree(self, run_steps, [None])

    def test_by_name(self):
        self.assertEqual(run_steps(book=EXAMPLE, tree=EXAMPLE_TREE, steps=[(0, 0)]), SECOND_TREE)
        self.assertEqual(run_steps(steps=[], tree=SECOND_TREE, book=EXAMPLE), SECOND_TREE)


class IsAtRest(unittest.TestCase):
    def test_all_small_trees(self):
        for book in (ONE_STATE, EXAMPLE, TWO_STATES, THREE_STATES):
            for tree in small_trees(book):
                self.assertIs(is_at_rest(book, tree), steps_by_the_words(book, tree) == [])

    def test_the_empty_tree(self):
        for book in BOOKS:
            for outside in range(book[0]):
                self.assertIs(is_at_rest(book, (outside, (), ())), True)

    def test_only_the_last_node_can_fire(self):
        line = (0, tuple(range(-1, 249)), (0,) * 248 + (1, 0))
        self.assertIs(is_at_rest(EXAMPLE, line), False)
        self.assertIs(is_at_rest(EXAMPLE, line_of(250)), True)

    def test_errors(self):
        check_book_and_tree(self, is_at_rest)

    def test_by_name(self):
        self.assertIs(is_at_rest(book=EXAMPLE, tree=THIRD_TREE), True)
        self.assertIs(is_at_rest(tree=EXAMPLE_TREE, book=EXAMPLE), False)


if __name__ == "__main__":
    unittest.main()
