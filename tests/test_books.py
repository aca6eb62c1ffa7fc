"""Books, and the rules that can fire: points 4 to 6."""

import itertools
import unittest

from onerest.books import is_book, rules_for
from onerest.errors import BadBook, BadState
from tests.samples import BIG, BOOKS, EXAMPLE, FOUR_STATES, NO_NUMBERS, ONE_STATE, OTHERS
from tests.samples import THREE_STATES, TWO_STATES, misformed, replaced


def rules_with(n):
    """Every rule for n states whose signal is constant, and some with other signals."""
    for above, own, new in itertools.product(range(n), repeat=3):
        if own != new:
            for told in range(n):
                yield (above, own, new, (told,) * n)
            yield (above, own, new, tuple(range(n)))


class IsBook(unittest.TestCase):
    def test_ordinary_books(self):
        for book in BOOKS:
            with self.subTest(book=book):
                self.assertIs(is_book(book), True)

    def test_one_to_four_states_without_rules(self):
        for n in (1, 2, 3, 4):
            self.assertIs(is_book((n, ())), True)

    def test_no_other_number_of_states(self):
        for n in (0, 5, 6, -1, -2, BIG, -BIG):
            with self.subTest(n=n):
                self.assertIs(is_book((n, ())), False)
        rule_for_five = (4, 3, 2, (0, 1, 2, 3, 4))
        self.assertIs(is_book((5, (rule_for_five,))), False)
        for thing in NO_NUMBERS:
            self.assertIs(is_book((thing, ())), False)

    def test_up_to_twelve_rules(self):
        for n in (2, 3, 4):
            rules = tuple(rules_with(n))
            for many in range(13):
                with self.subTest(n=n, many=many):
                    self.assertIs(is_book((n, rules[:many])), True)
                    self.assertIs(is_book((n, rules[-many:] if many else ())), True)

    def test_thirteen_rules_are_too_many(self):
        for n in (3, 4):
            rules = tuple(rules_with(n))
            self.assertIs(is_book((n, rules[:13])), False)
            self.assertIs(is_book((n, rules)), False)
        sixteen = tuple(
            (above, own, 1 - own, signal)
            for above in (0, 1) for own in (0, 1)
            for signal in itertools.product((0, 1), repeat=2)
        )
        self.assertIs(is_book((2, sixteen[:12])), True)
        self.assertIs(is_book((2, sixteen[:13])), False)

    def test_every_rule_of_two_states(self):
        for above, own, new, *signal in itertools.product(range(-1, 3), repeat=5):
            rule = (above, own, new, tuple(signal))
            good = own != new and all(0 <= part <= 1 for part in (above, own, new, *signal))
            self.assertIs(is_book((2, (rule,))), good, rule)

    def test_equal_rules(self):
        rule = (1, 0, 1, (0, 0))
        other = (1, 0, 1, (0, 1))
        again = (1, 0, 1, tuple([0, 0]))
        self.assertIs(is_book((2, (rule, other))), True)
        self.assertIs(is_book((2, (rule, again))), False)
        self.assertIs(is_book((2, (rule, other, again))), False)
        self.assertIs(is_book((2, (other, rule, again))), False)

    def test_rules_that_differ_in_one_part(self):
        rule = (0, 0, 1, (0, 1, 2))
        for other in ((1, 0, 1, (0, 1, 2)), (0, 2, 1, (0, 1, 2)), (0, 0, 2, (0, 1, 2)), (0, 0, 1, (0, 1, 1))):
            self.assertIs(is_book((3, (rule, other))), True)

    def test_own_equal_to_new(self):
        for n in (1, 2, 3, 4):
            for above, own in itertools.product(range(n), repeat=2):
                self.assertIs(is_book((n, ((above, own, own, (0,) * n),))), False)

    def test_a_state_that_is_none(self):
        book = THREE_STATES
        for place in range(len(book[1])):
            for path in ((0,), (1,), (2,), (3, 0), (3, 1), (3, 2)):
                for thing in (-1, 3, 4, BIG, -BIG, *NO_NUMBERS):
                    self.assertIs(is_book(replaced(book, (1, place, *path), thing)), False)

    def test_signal_that_is_too_short_or_too_long(self):
        for n in (2, 3, 4):
            for length in range(6):
                rule = (0, 0, 1, (0,) * length)
                self.assertIs(is_book((n, (rule,))), length == n)

    def test_rule_that_is_too_short_or_too_long(self):
        rule = (1, 0, 1, (0, 0))
        for part in (rule[:0], rule[:1], rule[:2], rule[:3], rule + (0,), rule + rule):
            self.assertIs(is_book((2, (part,))), False)
            self.assertIs(is_book((2, (rule, part))), False)

    def test_book_that_is_too_short_or_too_long(self):
        for thing in ((), (2,), (2, (), ()), (2, (), 0), ((), 2)):
            self.assertIs(is_book(thing), False)

    def test_truths_and_lists_at_every_depth(self):
        for book in BOOKS:
            for thing in misformed(book):
                with self.subTest(thing=thing):
                    self.assertIs(is_book(thing), False)

    def test_a_truth_beside_an_equal_rule(self):
        self.assertIs(is_book((2, ((1, 0, 1, (0, 0)), (True, 0, 1, (0, 0))))), False)

    def test_other_objects(self):
        for place, thing in enumerate(OTHERS):
            with self.subTest(place=place):
                self.assertIs(is_book(thing), False)
                self.assertIs(is_book((2, thing)), place == OTHERS.index(()))
                self.assertIs(is_book((2, (thing,))), False)
                self.assertIs(is_book((2, (*EXAMPLE[1], thing))), False)
                self.assertIs(is_book((2, ((1, 0, 1, thing),))), False)

    def test_by_name(self):
        self.assertIs(is_book(thing=EXAMPLE), True)
        self.assertIs(is_book(thing=[]), False)


class RulesFor(unittest.TestCase):
    def test_every_parent_state_and_own_state(self):
        expected = {
            ONE_STATE: {},
            EXAMPLE: {(1, 0): [0]},
            TWO_STATES: {(0, 0): [0, 3], (0, 1): [1], (1, 0): [2]},
            THREE_STATES: {(2, 0): [0, 2, 4], (0, 2): [1], (1, 1): [3]},
            FOUR_STATES: {(3, 0): [0, 2], (0, 3): [1], (2, 2): [3], (1, 2): [4]},
        }
        for book, told in expected.items():
            for above, own in itertools.product(range(book[0]), repeat=2):
                with self.subTest(book=book, above=above, own=own):
                    found = rules_for(book, above, own)
                    self.assertIsInstance(found, list)
                    self.assertEqual(found, told.get((above, own), []))

    def test_twelve_rules_for_one_pair(self):
        signals = list(itertools.product(range(3), repeat=3))[:12]
        book = (3, tuple((2, 1, 0, signal) for signal in signals))
        self.assertEqual(rules_for(book, 2, 1), list(range(12)))
        self.assertEqual(rules_for(book, 1, 2), [])

    def test_bad_state_for_each_of_the_two(self):
        for book in BOOKS:
            for thing in (-1, book[0], book[0] + 1, BIG, -BIG, *NO_NUMBERS):
                with self.assertRaises(BadState):
                    rules_for(book, thing, 0)
                with self.assertRaises(BadState):
                    rules_for(book, 0, thing)
                with self.assertRaises(BadState):
                    rules_for(book, thing, thing)

    def test_bad_book_comes_first(self):
        for book in [*OTHERS, *misformed(EXAMPLE)]:
            for above, own in ((0, 0), (9, 0), (0, 9), (None, None)):
                with self.assertRaises(BadBook):
                    rules_for(book, above, own)

    def test_by_name(self):
        self.assertEqual(rules_for(book=TWO_STATES, above=0, own=1), [1])
        self.assertEqual(rules_for(own=1, above=0, book=TWO_STATES), [1])
        self.assertEqual(rules_for(TWO_STATES, own=0, above=1), [2])

    def test_the_list_is_new(self):
        found = rules_for(TWO_STATES, 0, 0)
        found.append(99)
        found[0] = 98
        self.assertEqual(rules_for(TWO_STATES, 0, 0), [0, 3])
        self.assertIsNot(rules_for(TWO_STATES, 1, 1), rules_for(TWO_STATES, 1, 1))


if __name__ == "__main__":
    unittest.main()
