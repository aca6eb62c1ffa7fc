"""Books as objects: point 41."""

import inspect
import unittest

from onerest.books import is_book
from onerest.errors import BadBook, BadRule, BadTree, NoEnd, NoOneRest
from onerest.readers import reader_of, rest_of
from onerest.rulebooks import RuleBook
from tests.samples import BIG, BOOKS, EXAMPLE, EXAMPLE_TREE, NO_NUMBERS, NO_TREES, OTHERS, SETTLED, THREE_STATES
from tests.samples import TWO_RESTS, TWO_STATES, all_trees, misformed, paths_of, replaced

RULE = EXAMPLE[1][0]
NO_RULES_FOR_TWO = [
    *OTHERS, *misformed(RULE),
    (1, 0, 1), (1, 0, 1, (0, 0), 0), (0, 0, 0, (0, 0)), (1, 1, 1, (0, 0)),
    (2, 0, 1, (0, 0)), (0, 2, 1, (0, 0)), (0, 0, 2, (0, 0)), (-1, 0, 1, (0, 0)), (0, -1, 0, (0, 0)),
    (0, 0, 1, (0,)), (0, 0, 1, (0, 0, 0)), (0, 0, 1, ()), (0, 0, 1, (0, 2)), (0, 0, 1, (-1, 0)), (0, 0, 1, 0),
    (0, 0, 1, "00"), (BIG, 0, 1, (0, 0)), ("1", "0", "1", ("0", "0")), EXAMPLE,
]
# All sixteen rules for two states.
MANY_RULES = [
    (above, own, 1 - own, (one, two)) for above in (0, 1) for own in (0, 1) for one in (0, 1) for two in (0, 1)
]


def made(book):
    """The RuleBook with these rules."""
    found = RuleBook(book[0])
    for rule in book[1]:
        found = found + rule
    return found


class Making(unittest.TestCase):
    def test_no_rules_at_first(self):
        for n in (1, 2, 3, 4):
            book = RuleBook(n)
            self.assertEqual(book.told(), (n, ()))
            self.assertEqual(len(book), 0)
            self.assertEqual(RuleBook(n=n), book)

    def test_what_is_no_number_of_states(self):
        for thing in (*NO_NUMBERS, 0, 5, -1, -4, BIG, -BIG, EXAMPLE, (2, ()), RuleBook(2)):
            with self.assertRaises(BadBook):
                RuleBook(thing)

    def test_one_rule_after_the_other(self):
        for book in BOOKS + SETTLED:
            found = made(book)
            self.assertEqual(found.told(), book)
            self.assertIsInstance(found.told(), tuple)
            self.assertTrue(is_book(found.told()))
            self.assertEqual(len(found), len(book[1]))


class Plus(unittest.TestCase):
    def test_a_new_book_and_the_old_one_as_it_was(self):
        empty = RuleBook(2)
        one = empty + RULE
        two = one + (0, 0, 1, (1, 1))
        other = one + (0, 0, 1, (0, 1))
        self.assertIsInstance(one, RuleBook)
        self.assertEqual(empty.told(), (2, ()))
        self.assertEqual(one.told(), EXAMPLE)
        self.assertEqual(two.told(), (2, (RULE, (0, 0, 1, (1, 1)))))
        self.assertEqual(other.told(), (2, (RULE, (0, 0, 1, (0, 1)))))

    def test_added_to_a_name(self):
        book = held = RuleBook(2)
        book += RULE
        self.assertEqual((book.told(), held.told()), (EXAMPLE, (2, ())))
        book -= RULE
        self.assertEqual(book.told(), (2, ()))

    def test_what_is_no_rule(self):
        for book in (RuleBook(2), RuleBook(2) + RULE):
            told = book.told()
            for thing in NO_RULES_FOR_TWO:
                with self.assertRaises(BadRule):
                    book + thing
            self.assertEqual(book.told(), told)

    def test_any_object_at_any_place_of_a_rule(self):
        rule = (0, 1, 0, (1, 0))
        for path in paths_of(rule):
            for thing in [[], None, "0", (2,), -1, 2, True, False, [0], {}, ((), ())]:
                with self.assertRaises(BadRule):
                    RuleBook(2) + replaced(rule, path, thing)

    def test_rules_of_other_numbers_of_states(self):
        for n in (1, 2, 3, 4):
            rule = (0, 1, 0, (0,) * n)
            for other in (1, 2, 3, 4):
                if n == other and n > 1:
                    self.assertEqual((RuleBook(n) + rule).told(), (n, (rule,)))
                else:
                    with self.assertRaises(BadRule):
                        RuleBook(other) + rule

    def test_a_rule_that_is_in_the_book(self):
        for book in (EXAMPLE, TWO_STATES, THREE_STATES):
            for rule in book[1]:
                with self.assertRaises(BadRule):
                    made(book) + rule

    def test_twelve_rules_are_the_most(self):
        book = made((2, tuple(MANY_RULES[:12])))
        self.assertEqual(len(book), 12)
        for rule in MANY_RULES:
            with self.assertRaises(BadRule):
                book + rule
        fewer = book - MANY_RULES[3]
        self.assertEqual((fewer + MANY_RULES[13]).told()[1], (*MANY_RULES[:3], *MANY_RULES[4:12], MANY_RULES[13]))


class Minus(unittest.TestCase):
    def test_a_new_book_and_the_old_one_as_it_was(self):
        book = made(THREE_STATES)
        for number, rule in enumerate(THREE_STATES[1]):
            less = book - rule
            self.assertIsInstance(less, RuleBook)
            self.assertEqual(less.told(), (3, THREE_STATES[1][:number] + THREE_STATES[1][number + 1:]))
            self.assertEqual(book.told(), THREE_STATES)
            self.assertNotIn(rule, less)
        self.assertEqual((made(EXAMPLE) - RULE).told(), (2, ()))

    def test_what_is_not_in_the_book(self):
        book = made(EXAMPLE)
        for thing in [*NO_RULES_FOR_TWO, *[rule for rule in MANY_RULES if rule != RULE]]:
            for without_it in (book, RuleBook(2)):
                with self.assertRaises(BadRule):
                    without_it - thing
        with self.assertRaises(BadRule):
            RuleBook(2) - RULE
        self.assertEqual(book.told(), EXAMPLE)

    def test_twice(self):
        less = made(EXAMPLE) - RULE
        with self.assertRaises(BadRule):
            less - RULE
        self.assertEqual(less + RULE, made(EXAMPLE))


class Asking(unittest.TestCase):
    def test_in(self):
        book = made(TWO_STATES)
        for rule in MANY_RULES:
            self.assertIs(rule in book, rule in TWO_STATES[1])
        for thing in NO_RULES_FOR_TWO:
            self.assertIs(thing in book, False)
            self.assertIs(thing in made(EXAMPLE), False)
            self.assertIs(thing in RuleBook(2), False)

    def test_items(self):
        for told in BOOKS:
            book = made(told)
            self.assertEqual(tuple(book[k] for k in range(len(told[1]))), told[1])
            for thing in (len(told[1]), len(told[1]) + 1, -1, -len(told[1]), BIG, *NO_NUMBERS, slice(0, 1), RULE):
                with self.assertRaises(BadRule):
                    book[thing]

    def test_no_other_way_to_change_or_to_go_over_it(self):
        book = made(EXAMPLE)
        with self.assertRaises(TypeError):
            book[0] = RULE
        with self.assertRaises(TypeError):
            list(book)

    def test_equal(self):
        self.assertTrue(made(TWO_STATES) == made(TWO_STATES))
        self.assertFalse(made(TWO_STATES) != made(TWO_STATES))
        self.assertTrue(RuleBook(3) == RuleBook(3))
        self.assertTrue(made(EXAMPLE) - RULE == RuleBook(2))
        self.assertTrue(made(TWO_STATES) == made((2, TWO_STATES[1][:3])) + TWO_STATES[1][3])

    def test_not_equal(self):
        book = made(TWO_STATES)
        for other in (
            made((2, TWO_STATES[1][::-1])), made((2, TWO_STATES[1][:3])), made((2, TWO_STATES[1][1:])), RuleBook(2),
        ):
            self.assertFalse(book == other)
            self.assertTrue(book != other)
        for n in (1, 3, 4):
            self.assertFalse(RuleBook(2) == RuleBook(n))

    def test_equal_to_nothing_else(self):
        for book in (RuleBook(2), made(EXAMPLE)):
            for thing in [*OTHERS, EXAMPLE, (2, ()), book.told(), [*book.told()]]:
                self.assertFalse(book == thing)
                self.assertTrue(book != thing)

    def test_is_within(self):
        book = made(TWO_STATES)
        for part in (TWO_STATES[1], TWO_STATES[1][::-1], TWO_STATES[1][:2], TWO_STATES[1][2:], ()):
            self.assertIs(made((2, part)).is_within(book), True)
            self.assertIs(book.is_within(made((2, part))), len(part) == 4)
        self.assertIs(made(EXAMPLE).is_within(book), False)
        self.assertIs((made(EXAMPLE) + TWO_STATES[1][0]).is_within(book), False)
        self.assertIs(made(EXAMPLE).is_within(other=made(EXAMPLE)), True)
        for n in (1, 3, 4):
            self.assertIs(RuleBook(2).is_within(RuleBook(n)), False)
            self.assertIs(RuleBook(n).is_within(RuleBook(2)), False)
            self.assertIs(RuleBook(n).is_within(RuleBook(n)), True)

    def test_told_is_a_book_for_all_functions(self):
        for told in SETTLED:
            self.assertEqual(reader_of(made(told).told()), reader_of(told))


class Calling(unittest.TestCase):
    def test_the_rest(self):
        for told in (EXAMPLE, *SETTLED):
            book = made(told)
            for tree in all_trees(told[0], 2):
                self.assertEqual(book(tree), rest_of(told, tree))
                self.assertEqual(book(tree=tree), rest_of(told, tree))

    def test_errors(self):
        for book in (made(EXAMPLE), made(TWO_STATES), made(TWO_RESTS)):
            for thing in [*NO_TREES, book]:
                with self.assertRaises(BadTree):
                    book(thing)
                with self.assertRaises(BadTree):
                    book(tree=thing)
        with self.assertRaises(NoEnd):
            made(TWO_STATES)(EXAMPLE_TREE)
        with self.assertRaises(NoOneRest):
            made(TWO_RESTS)(EXAMPLE_TREE)

    def test_the_parameters(self):
        self.assertEqual(list(inspect.signature(RuleBook).parameters), ["n"])
        self.assertEqual(list(inspect.signature(RuleBook(2)).parameters), ["tree"])
        self.assertEqual(list(inspect.signature(RuleBook(2).is_within).parameters), ["other"])

    def test_a_rule_book_is_no_book_itself(self):
        book = made(EXAMPLE)
        self.assertIs(is_book(book), False)
        for asked in (reader_of, lambda thing: rest_of(thing, EXAMPLE_TREE), lambda thing: rest_of(thing, None)):
            with self.assertRaises(BadBook):
                asked(book)


if __name__ == "__main__":
    unittest.main()
