"""What the document promises over the whole program: points 1 to 3, 8 and 26, and the example of point 48."""

import inspect
import itertools
import random
import unittest

from onerest.books import rules_for
from onerest.desk import Desk
from onerest.ends import ending_holds, ending_of
from onerest.errors import BadBook, BadTree, NoEnd, NoOneRest
from onerest.hands import changed_nodes
from onerest.live import Live
from onerest.longlines import long_rest_counts, long_rest_state
from onerest.outcomes import outcome_holds, outcome_of
from onerest.readers import join_runs, read_states, reader_holds, reader_of, rest_of
from onerest.rounds import count_rounds, run_round
from onerest.rulebooks import RuleBook
from onerest.texts import read_book, read_run, read_tree, show_book, show_run, show_tree
from onerest.trees import enabled_steps, fire_step, is_at_rest, run_steps
from onerest.unknown import count_rests, count_sources, filling_for, possible_rests
from tests.brute import has_ring_by_the_words, random_books, rests_by_all_runs, settled_books
from tests.samples import BOOKS, EXAMPLE, EXAMPLE_TREE, NO_BOOKS, NO_TREES, SETTLED, TWO_RESTS, TWO_STATES, all_trees
from tests.samples import line_of_states
from tests.test_form import INTERFACE

# Good arguments for EXAMPLE and EXAMPLE_TREE, by the names of the parameters.
ARGUMENTS = {
    "book": EXAMPLE, "tree": EXAMPLE_TREE, "thing": 0, "above": 1, "own": 0, "outside": 1, "child": 0, "node": 0,
    "state": 1, "step": (0, 0), "steps": [(0, 0)], "certificate": None, "one": [], "numbers": [0], "held": [0],
    "index": 0, "number": 0, "line": (1, (((0, 1), 2),)), "open_tree": (1, (-1, 0), ((0, 1), (0,))), "order": None,
    "reader": ((0, 1), (((0, 0), (1, 1)), ((1, 1), (1, 1)))), "text": "outside 1",
}
# Functions that need a book whose runs end only, and those that need a settled one.
NEED_AN_END = ["step_bounds", "node_rests", "node_results", "first_way", "outcome_of", "outcome_holds", "run_round",
               "count_rounds"]
NEED_A_SETTLED_BOOK = [
    "rest_of", "join_runs", "reader_of", "reader_holds", "first_difference", "first_clash", "spare_rules",
    "fewest_rules", "changed_nodes", "change_reach", "reach_ranks", "least_changes", "shortest_with",
    "long_rest_state", "long_rest_counts", "long_rest_index", "long_change", "possible_rests", "filling_for",
    "count_sources",
]


def functions_of_books():
    """All functions and classes of the interface whose first parameter is a book, with their parameters."""
    for (module, name), parameters in INTERFACE.items():
        if parameters[:1] == ["book"]:
            yield name, getattr(module, name), parameters


def other_argument(name, parameter, book):
    """A good argument: `other` is a book for two functions and a list of steps for another one."""
    if parameter == "other":
        return [] if name == "join_runs" else book
    return ARGUMENTS[parameter]


def asked_with(name, function, parameters, book):
    """What a function answers of a book with two states, and of good arguments."""
    arguments = {parameter: other_argument(name, parameter, book) for parameter in parameters}
    return function(**{**arguments, "book": book})


class Errors(unittest.TestCase):
    def test_bad_book_comes_first(self):
        asked = 0
        for name, function, parameters in functions_of_books():
            nones = {parameter: None for parameter in parameters}
            for thing in [*NO_BOOKS, RuleBook(2), Live(EXAMPLE, EXAMPLE_TREE), Desk()]:
                with self.assertRaises(BadBook, msg=name):
                    function(**{**nones, "book": thing})
            asked += 1
        self.assertEqual(asked, 50)

    def test_bad_tree_comes_next(self):
        asked = 0
        for name, function, parameters in functions_of_books():
            if parameters[1:2] == ["tree"]:
                nones = {parameter: None for parameter in parameters}
                for book in (EXAMPLE, TWO_RESTS, TWO_STATES):
                    for thing in [*NO_TREES, Live(EXAMPLE, EXAMPLE_TREE), RuleBook(2)]:
                        with self.assertRaises(BadTree, msg=name):
                            function(**{**nones, "book": book, "tree": thing})
                asked += 1
        self.assertEqual(asked, 18)

    def test_which_books_are_needed(self):
        for name, function, parameters in functions_of_books():
            for book, error, names in (
                (EXAMPLE, None, []), (TWO_RESTS, NoOneRest, NEED_A_SETTLED_BOOK),
                (TWO_STATES, NoEnd, NEED_AN_END + NEED_A_SETTLED_BOOK),
            ):
                with self.subTest(name=name, book=book):
                    if name in names:
                        with self.assertRaises(error):
                            asked_with(name, function, parameters, book)
                    elif name not in ("fire_step", "run_steps", "way_result") or book == EXAMPLE:
                        # The steps and the way that are passed can be taken by EXAMPLE only.
                        asked_with(name, function, parameters, book)

    def test_objects_raise_what_the_functions_raise(self):
        for book, error in ((TWO_STATES, NoEnd), (TWO_RESTS, NoOneRest)):
            asked = RuleBook(2)
            for rule in book[1]:
                asked = asked + rule
            with self.assertRaises(BadTree):
                asked(None)
            with self.assertRaises(error):
                asked(EXAMPLE_TREE)
            with self.assertRaises(error):
                reader_of(asked.told())
            with self.assertRaises(BadTree):
                changed_nodes(asked.told(), (2, (), ()), None, None)
        live = Live((4, ()), (3, (-1,), (3,)))
        with self.assertRaises(BadTree):
            changed_nodes(EXAMPLE, live.tree(), None, None)


class Answers(unittest.TestCase):
    def test_equal_calls_have_equal_answers_and_new_lists(self):
        for name, function, parameters in functions_of_books():
            with self.subTest(name=name):
                found = asked_with(name, function, parameters, EXAMPLE)
                shown = repr(found) if name != "Live" else repr(found.tree())
                if isinstance(found, list):
                    found.clear()
                again = asked_with(name, function, parameters, EXAMPLE)
                self.assertEqual(repr(again) if name != "Live" else repr(again.tree()), shown)

    def test_arguments_by_position_and_by_name(self):
        for name, function, parameters in functions_of_books():
            given = [other_argument(name, parameter, EXAMPLE) for parameter in parameters]
            stars = inspect.signature(function).parameters
            named = {
                parameter: worth for parameter, worth in zip(parameters, given)
                if stars[parameter].kind == inspect.Parameter.KEYWORD_ONLY
            }
            by_position = function(*given[:len(given) - len(named)], **named)
            self.assertEqual(by_position, function(**dict(zip(parameters, given))), name)


class MainProperty(unittest.TestCase):
    """Point 3, and what the parts of the program say of the same trees."""

    def test_each_book_has_a_ring_or_one_rest_or_two(self):
        met = {}
        for book in [*BOOKS, *SETTLED, TWO_RESTS, *random_books(1, 150, 2, 4), *random_books(2, 150, 3, 5)]:
            ending = ending_of(book)
            self.assertTrue(ending_holds(book, ending))
            self.assertEqual(ending[0] == "ring", has_ring_by_the_words(book))
            if ending[0] == "ring":
                with self.assertRaises(NoEnd):
                    outcome_of(book)
                found = "ring"
            else:
                outcome = outcome_of(book)
                self.assertTrue(outcome_holds(book, outcome))
                found = outcome[0]
                if found == "one":
                    for tree in all_trees(book[0], 2):
                        self.assertEqual(rests_by_all_runs(book, tree), {rest_of(book, tree)})
                else:
                    rests = [run_steps(book, outcome[1], steps) for steps in outcome[2:]]
                    self.assertNotEqual(*rests)
                    self.assertTrue(set(rests) <= rests_by_all_runs(book, outcome[1]))
            met[found] = met.get(found, 0) + 1
        self.assertTrue(all(met[found] > 20 for found in ("ring", "one", "two")), met)

    def test_all_parts_tell_the_same_rest(self):
        chance = random.Random(1)
        for book in [*SETTLED, *settled_books(99, 60, 3, 5)]:
            n = book[0]
            for nodes in (0, 1, 2, 5, 20):
                parents = tuple(chance.randrange(max(-1, node - 3), node) for node in range(nodes))
                tree = (chance.randrange(n), parents, tuple(chance.randrange(n) for _ in range(nodes)))
                self.check_tree(book, tree, chance)
                self.check_line(book, line_of_states(tree[0], tree[2]))

    def check_tree(self, book, tree, chance):
        rest = rest_of(book, tree)
        self.assertTrue(is_at_rest(book, rest))
        asked = RuleBook(book[0])
        for rule in book[1]:
            asked = asked + rule
        self.assertEqual(asked(tree), rest)
        self.assertEqual(read_states(reader_of(book), tree), rest[2])
        self.assertTrue(reader_holds(book, reader_of(book)))
        self.assertEqual(run_round(book, tree), rest)
        live = Live(book, tree)
        steps = live.settle()
        self.assertEqual(live.tree(), rest)
        self.assertEqual(run_steps(book, tree, read_run(show_run(steps))), rest)
        self.assertEqual(read_tree(read_book(show_book(book)), show_tree(book, rest)), rest)
        open_tree = (tree[0], tree[1], tuple((state,) for state in tree[2]))
        self.assertEqual(possible_rests(book, open_tree), [[state] for state in rest[2]])
        self.assertGreater(count_sources(book, rest), 0)
        self.assertLessEqual(count_sources(book, rest), book[0] ** len(rest[2]))
        self.assertGreater(count_rests(book, tree), 0)
        for node in range(len(rest[2])):
            self.assertEqual(filling_for(book, open_tree, node, rest[2][node]), tree)
        behind = tree
        run = []
        while enabled_steps(book, behind) and len(run) < 5:
            run.append(chance.choice(enabled_steps(book, behind)))
            behind = fire_step(book, behind, run[-1])
        more, all_steps = join_runs(book, tree, run, [])
        self.assertEqual((run_steps(book, behind, more), run_steps(book, tree, all_steps)), (rest, rest))

    def check_line(self, book, line):
        outside, _, states = line
        rest = rest_of(book, line)[2]
        long_line = (outside, tuple((states[at:at + 2], 1) for at in range(0, len(states), 2)))
        self.assertEqual(tuple(long_rest_state(book, long_line, k) for k in range(len(rest))), rest)
        self.assertEqual(long_rest_counts(book, long_line), tuple(rest.count(state) for state in range(book[0])))


class TheExample(unittest.TestCase):
    """Point 48."""

    def test_steps(self):
        book = (2, ((1, 0, 1, (0, 0)),))
        tree = (1, (-1, 0), (0, 1))
        self.assertEqual(rules_for(book, 1, 0), [0])
        for above, own in itertools.product((0, 1), repeat=2):
            self.assertEqual(rules_for(book, above, own), [0] if (above, own) == (1, 0) else [])
        self.assertEqual(enabled_steps(book, tree), [(0, 0)])
        self.assertEqual(fire_step(book, tree, (0, 0)), (1, (-1, 0), (1, 0)))
        self.assertEqual(fire_step(book, (1, (-1, 0), (1, 0)), (1, 0)), (1, (-1, 0), (1, 1)))
        self.assertTrue(is_at_rest(book, (1, (-1, 0), (1, 1))))

    def test_certificates_and_the_reader(self):
        book = (2, ((1, 0, 1, (0, 0)),))
        self.assertEqual(ending_of(book), ("ranks", ((0, 0), (1, 0))))
        self.assertEqual(
            outcome_of(book), ("one", [(0, 0, 0), (0, 1, 1), (1, 0, 0), (1, 0, 1), (1, 1, 0), (1, 1, 1)]),
        )
        self.assertEqual(reader_of(book), ((0, 1), (((0, 0), (1, 1)), ((1, 1), (1, 1)))))
        self.assertEqual(count_rounds(book, (1, (-1, 0), (0, 1)), order=[1, 0]), 2)

    def test_below_a_node_in_state_1_all_come_to_state_1(self):
        book = (2, ((1, 0, 1, (0, 0)),))
        for tree in all_trees(2, 4):
            outside, parents, _ = tree
            rest = rest_of(book, tree)[2]
            for node, parent in enumerate(parents):
                if (outside if parent == -1 else rest[parent]) == 1:
                    self.assertEqual(rest[node], 1)


if __name__ == "__main__":
    unittest.main()
