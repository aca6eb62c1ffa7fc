"""Runs that end: points 11 to 14, and the example of point 48."""

import random
import unittest

from onerest.ends import ending_holds, ending_of, step_bounds
from onerest.errors import BadBook, BadTree, NoEnd
from tests.brute import all_books_that_end, has_ring_by_the_words, random_books, steps_by_the_words
from tests.brute import tree_behind_steps, tree_by_the_words, walks_by_the_words
from tests.checks import BOOK, TREE, check_answers, check_needs, check_order
from tests.samples import BIG, BOOKS, EXAMPLE, EXAMPLE_TREE, FOUR_STATES, NO_NUMBERS, ONE_STATE, OTHERS
from tests.samples import THREE_STATES, TWO_RESTS, TWO_STATES, line_of, line_of_states, misformed, paths_of
from tests.samples import replaced

# Under a parent in state 1 the rules 1, 2 and 3 go round, also 0 and 3; 4 leads away from them.
RINGS = (3, (
    (1, 0, 1, (0, 0, 0)),
    (1, 0, 2, (0, 1, 2)),
    (1, 2, 1, (0, 1, 2)),
    (1, 1, 0, (0, 1, 2)),
    (2, 1, 0, (0, 1, 2)),
))
# Rules 0, 1, 2 and 3 pass state 0 twice before they come back to it, and no rule twice.
EIGHT = (3, (
    (0, 0, 1, (0, 0, 0)),
    (0, 1, 0, (0, 0, 0)),
    (0, 0, 2, (0, 0, 0)),
    (0, 2, 0, (0, 0, 0)),
))
CHAIN = (4, ((2, 3, 1, (0,) * 4), (2, 1, 0, (0,) * 4), (2, 0, 2, (0,) * 4), (2, 3, 2, (0,) * 4), (0, 1, 2, (0,) * 4)))
CHAIN_RANKS = ((0, 1, 0, 0), (0, 0, 0, 0), (1, 2, 0, 3), (0, 0, 0, 0))


def random_sample():
    for n, seed in ((2, 1), (3, 2), (4, 3)):
        yield from random_books(seed, 150, n, 12 if n > 2 else 6)


def ranks_by_the_words(book):
    """Point 11 once more: the longest of all walks, of a book without a ring."""
    states = range(book[0])
    return tuple(
        tuple(max(len(walk) for walk, _ in walks_by_the_words(book, above, own, 9)) for own in states)
        for above in states
    )


class EndingOf(unittest.TestCase):
    def test_the_example(self):
        self.assertEqual(ending_of(EXAMPLE), ("ranks", ((0, 0), (1, 0))))

    def test_books_without_rules(self):
        for n in (1, 2, 3, 4):
            self.assertEqual(ending_of((n, ())), ("ranks", ((0,) * n,) * n))

    def test_a_chain_with_a_short_cut(self):
        self.assertEqual(ending_of(CHAIN), ("ranks", CHAIN_RANKS))

    def test_all_books_of_two_states_that_end(self):
        for book in all_books_that_end():
            self.assertEqual(ending_of(book), ("ranks", ranks_by_the_words(book)))

    def test_random_books(self):
        met = set()
        for book in random_sample():
            with self.subTest(book=book):
                found = ending_of(book)
                met.add(found[0])
                if has_ring_by_the_words(book):
                    self.check_ring(book, found)
                else:
                    self.assertEqual(found, ("ranks", ranks_by_the_words(book)))
                    self.assertEqual({type(rank) for row in found[1] for rank in row}, {int})
        self.assertEqual(met, {"ranks", "ring"})

    def test_rings(self):
        for book in (TWO_STATES, RINGS, EIGHT):
            self.check_ring(book, ending_of(book))

    def check_ring(self, book, found):
        self.assertIsInstance(found, tuple)
        word, above, numbers = found
        self.assertEqual(word, "ring")
        self.assertIsInstance(numbers, list)
        self.assertGreaterEqual(len(numbers), 2)
        self.assertEqual(len(set(numbers)), len(numbers))
        for number, behind in zip(numbers, numbers[1:] + numbers[:1]):
            self.assertEqual(book[1][number][0], above)
            self.assertEqual(book[1][number][2], book[1][behind][1])
        self.check_run_without_an_end(book, above, numbers)

    def check_run_without_an_end(self, book, above, numbers):
        tree = (above, (-1,), (book[1][numbers[0]][1],))
        self.assertEqual(tree_behind_steps(book, tree, [(0, number) for number in numbers * 3]), tree)

    def test_answers(self):
        for book in (EXAMPLE, TWO_STATES, RINGS):
            check_answers(self, ending_of, [book], ["book"])

    def test_errors(self):
        check_order(self, ending_of, [BOOK])


class EndingHolds(unittest.TestCase):
    def test_what_ending_of_returns(self):
        for book in [*random_sample(), RINGS, EIGHT, CHAIN, *BOOKS]:
            self.assertIs(ending_holds(book, ending_of(book)), True)

    def test_greater_ranks_that_fall_by_each_rule(self):
        for ranks in (
            ((0, 0), (1, 0)), ((0, 0), (2, 1)), ((7, 7), (1, 0)), ((0, BIG), (BIG, 0)), ((0, 0), (BIG, BIG - 1)),
        ):
            self.assertIs(ending_holds(EXAMPLE, ("ranks", ranks)), True)
        self.assertIs(ending_holds(CHAIN, ("ranks", ((0, 2, 1, 9), (5,) * 4, (4, 5, 1, 6), (0,) * 4))), True)

    def test_ranks_that_do_not_fall_by_some_rule(self):
        for ranks in (((0, 0), (0, 0)), ((1, 0), (0, 0)), ((0, 0), (0, 1)), ((5, 0), (3, 3)), ((0, 1), (0, 0))):
            self.assertIs(ending_holds(EXAMPLE, ("ranks", ranks)), False)
        for number, (above, own, new, _) in enumerate(CHAIN[1]):
            with self.subTest(number=number):
                spoilt = replaced(CHAIN_RANKS, (above, own), CHAIN_RANKS[above][new])
                self.assertIs(ending_holds(CHAIN, ("ranks", spoilt)), False)

    def test_no_ranks_hold_for_a_ring(self):
        for ranks in (((0, 0), (0, 0)), ((1, 0), (1, 0)), ((0, 1), (1, 0)), ((1, 1), (1, 0))):
            self.assertIs(ending_holds(TWO_STATES, ("ranks", ranks)), False)

    def test_ranks_below_zero(self):
        for table in (((0, 0), (1, -1)), ((-1, 0), (1, 0)), ((0, 0), (0, -1)), ((-BIG, 0), (1, 0))):
            self.assertIs(ending_holds(EXAMPLE, ("ranks", table)), False)

    def test_tables_of_another_size(self):
        for table in (
            (), ((),), ((0, 0),), ((0, 0), (1, 0), (0, 0)), ((0, 0), (1, 0, 0)), ((0,), (1, 0)), ((0, 0, 0), (1, 0, 0)),
            ((0, 0), ()), (0, 0, 1, 0), (0, 0), ((0, 0, 0),) * 3,
        ):
            self.assertIs(ending_holds(EXAMPLE, ("ranks", table)), False)

    def test_ring_from_each_of_its_rules(self):
        for numbers in ([1, 2, 3], [2, 3, 1], [3, 1, 2], [0, 3], [3, 0]):
            self.assertIs(ending_holds(RINGS, ("ring", 1, numbers)), True)
        for numbers in ([0, 1], [1, 0], [2, 3], [3, 2], [0, 1, 2, 3], [2, 3, 0, 1]):
            self.assertIs(ending_holds(EIGHT, ("ring", 0, numbers)), True)
        self.assertIs(ending_holds(TWO_STATES, ("ring", 0, [0, 1])), True)
        self.assertIs(ending_holds(TWO_STATES, ("ring", 0, [1, 3])), True)

    def test_spoilt_rings(self):
        for above, numbers in (
            (1, [1, 3, 2]), (1, [1, 2]), (1, [2, 3]), (1, [0, 4]), (1, [4, 0]), (2, [0, 3]), (0, [0, 3]), (2, [4, 0]),
            (1, []), (1, [0]), (1, [3]), (1, [0, 3, 0, 3]), (1, [1, 2, 3, 0, 3]), (1, [1, 2, 3, 1, 2, 3]),
            (1, [1, 2, 3, 4]), (1, [0, 3, 5]), (1, [-5, 3]), (1, [0, -2]), (1, [BIG, 3]), (1, [0, -BIG]),
            (3, [0, 3]), (-1, [0, 3]), (-2, [0, 3]), (BIG, [0, 3]),
        ):
            with self.subTest(above=above, numbers=numbers):
                self.assertIs(ending_holds(RINGS, ("ring", above, numbers)), False)

    def test_a_ring_in_which_a_rule_stands_twice(self):
        self.assertIs(ending_holds(EIGHT, ("ring", 0, [0, 1, 0, 1])), False)
        self.assertIs(ending_holds(EIGHT, ("ring", 0, [0, 1, 2, 3, 2, 3])), False)

    def test_a_ring_of_rules_below_unlike_parents(self):
        book = (2, ((0, 0, 1, (0, 0)), (1, 1, 0, (0, 0))))
        for above in (0, 1):
            for numbers in ([0, 1], [1, 0]):
                self.assertIs(ending_holds(book, ("ring", above, numbers)), False)
        self.assertEqual(ending_of(book)[0], "ranks")

    def test_lists_for_tuples_and_tuples_for_lists(self):
        self.assertIs(ending_holds(RINGS, ("ring", 1, (1, 2, 3))), False)
        self.assertIs(ending_holds(RINGS, ["ring", 1, [1, 2, 3]]), False)
        self.assertIs(ending_holds(EXAMPLE, ["ranks", ((0, 0), (1, 0))]), False)
        self.assertIs(ending_holds(EXAMPLE, ("ranks", [(0, 0), (1, 0)])), False)
        self.assertIs(ending_holds(EXAMPLE, ("ranks", ((0, 0), [1, 0]))), False)
        for spoilt in misformed(("ranks", CHAIN_RANKS)):
            self.assertIs(ending_holds(CHAIN, spoilt), False)

    def test_truths_for_numbers(self):
        for spoilt in (("ring", True, [1, 2, 3]), ("ring", 1, [True, 2, 3]), ("ring", 1, [False, 3])):
            self.assertIs(ending_holds(RINGS, spoilt), False)

    def test_other_words_and_lengths(self):
        for word in ("rank", "Ranks", "ranks ", "ring", "", b"ranks", None, *OTHERS):
            self.assertIs(ending_holds(EXAMPLE, (word, ((0, 0), (1, 0)))), False)
        for word in ("rings", "RING", "ranks", "", b"ring", None, *OTHERS):
            self.assertIs(ending_holds(RINGS, (word, 1, [0, 3])), False)
        for spoilt in (
            ("ranks",), ("ranks", ((0, 0), (1, 0)), None), ("ranks", 1, ((0, 0), (1, 0))), ("ring", [0, 3]),
            ("ring", 1), ("ring", 1, [0, 3], None), (((0, 0), (1, 0)), "ranks"), "ranks", "ring", ("r", "i"),
        ):
            self.assertIs(ending_holds(EXAMPLE, spoilt), False)
            self.assertIs(ending_holds(RINGS, spoilt), False)

    def test_any_object_at_any_place(self):
        good = ("ranks", ((0, 0), (1, 0)))
        for path in paths_of(good):
            for thing in NO_NUMBERS:
                self.assertIs(ending_holds(EXAMPLE, replaced(good, path, thing)), False)
        for thing in NO_NUMBERS:
            for spoilt in (
                (thing, 1, [0, 3]), ("ring", thing, [0, 3]), ("ring", 1, thing),
                ("ring", 1, [thing, 3]), ("ring", 1, [0, thing]), ("ring", 1, [0, 3, thing]),
            ):
                self.assertIs(ending_holds(RINGS, spoilt), False)
        for book in BOOKS:
            for thing in OTHERS:
                self.assertIs(ending_holds(book, thing), False)
                self.assertIs(ending_holds(book, ("ranks", thing)), False)
                self.assertIs(ending_holds(book, ("ring", thing, thing)), False)

    def test_answers(self):
        check_answers(self, ending_holds, [EXAMPLE, ("ranks", ((0, 0), (1, 0)))], ["book", "certificate"])
        check_answers(self, ending_holds, [RINGS, ("ring", 1, [1, 2, 3])], ["book", "certificate"])

    def test_errors(self):
        check_order(self, ending_holds, [BOOK, (("ranks", ((0, 0), (1, 0))), [None], None)])


class StepBounds(unittest.TestCase):
    def test_a_line(self):
        self.assertEqual(step_bounds(EXAMPLE, line_of(6)), [1, 2, 4, 7, 12, 20])
        self.assertEqual(step_bounds(CHAIN, line_of(5)), [3, 12, 48, 183, 696])

    def test_several_roots(self):
        tree = (0, (-1, 0, -1, 0, 1, 2, 4, -1), (0,) * 8)
        self.assertEqual(step_bounds(EXAMPLE, tree), [1, 2, 1, 2, 4, 2, 7, 1])
        self.assertEqual(step_bounds(CHAIN, tree), [3, 12, 3, 12, 48, 12, 183, 3])
        self.assertEqual(step_bounds(EXAMPLE, (0, (-1,) * 250, (0,) * 250)), [1] * 250)

    def test_the_tree_without_nodes(self):
        for book in (ONE_STATE, EXAMPLE, CHAIN):
            self.assertEqual(step_bounds(book, (0, (), ())), [])

    def test_books_without_rules(self):
        self.assertEqual(step_bounds(ONE_STATE, line_of(250)), [0] * 250)
        self.assertEqual(step_bounds((4, ()), line_of(3, 3, 3)), [0] * 3)

    def test_the_greatest_entry_may_stand_under_another_parent_state(self):
        self.assertEqual(step_bounds(CHAIN, (3, (-1,), (3,))), [3])

    def test_250_nodes(self):
        before, now = 0, 0
        expected = []
        for _ in range(250):
            before, now = now, 3 * (1 + now + before)
            expected.append(now)
        self.assertEqual(step_bounds(CHAIN, line_of(250)), expected)
        self.assertGreater(expected[-1], 10 ** 100)

    def test_no_run_fires_more_often(self):
        chance = random.Random(5)
        reached = 0
        for book in random_books(6, 300, 3, 8):
            if has_ring_by_the_words(book):
                continue
            tree = line_of_states(chance.randrange(3), [chance.randrange(3) for _ in range(4)])
            bounds = step_bounds(book, tree)
            for _ in range(20):
                for count, bound in zip(self.counts_of_a_run(chance, book, tree), bounds):
                    self.assertLessEqual(count, bound)
                    reached += count == bound > 0
        self.assertGreater(reached, 0)

    def counts_of_a_run(self, chance, book, tree):
        counts = [0] * len(tree[2])
        while steps := steps_by_the_words(book, tree):
            # The lowest nodes first, mostly, so that they fire often.
            step = steps[-1] if chance.randrange(4) else chance.choice(steps)
            counts[step[0]] += 1
            tree = tree_by_the_words(book, tree, step)
        return counts

    def test_answers(self):
        check_answers(self, step_bounds, [EXAMPLE, EXAMPLE_TREE], ["book", "tree"])

    def test_errors(self):
        check_needs(self, step_bounds, [BOOK, TREE], [NoEnd])
        for book in (TWO_STATES, RINGS, EIGHT):
            with self.assertRaises(NoEnd):
                step_bounds(book, (0, (), ()))
            with self.assertRaises(BadTree):
                step_bounds(book, (0, (), [0]))
        for book in (THREE_STATES, FOUR_STATES, TWO_RESTS):
            self.assertEqual(len(step_bounds(book, line_of(4))), 4)
        with self.assertRaises(BadBook):
            step_bounds((0, ()), None)


if __name__ == "__main__":
    unittest.main()
