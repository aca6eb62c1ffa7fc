"""Books compared: points 29 and 30."""

import itertools
import random
import unittest

from onerest.compared import fewest_removals, fewest_rules, first_clash, first_difference, spare_rules
from onerest.errors import BadBook, NoEnd, NoOneRest, TooMany, UnlikeBooks
from onerest.readers import rest_of
from tests.brute import is_settled_by_certificate, lines_up_to, random_books, rest_by_last_steps, settled_books
from tests.brute import settled_books_of_two_states
from tests.checks import BOOK, check_answers, check_needs, check_order
from tests.samples import EXAMPLE, FOUR_DOWN, NO_BOOKS, ON_AND_ON, SETTLED, SIX_ROWS, TWO_DOWN, TWO_RESTS
from tests.samples import TWO_STATES, part_at, replaced

RING = (3, ((2, 0, 1, (0, 1, 2)), (2, 1, 0, (0, 1, 2))))
TWO_RESTS_OF_THREE = (3, ((2, 0, 1, (0, 1, 2)), (2, 0, 2, (0, 1, 2))))
RING_AND_TWO_RESTS = (3, RING[1] + TWO_RESTS_OF_THREE[1][1:])

# Below a parent in state 3, where no node comes to and goes from: 0 goes to 2, at once or by 1.
STAY = (0, 1, 2, 3)
TWO_WAYS = (4, ((3, 0, 1, STAY), (3, 1, 2, STAY), (3, 0, 2, STAY)))
# Two ways that do not meet under each of the four parent states, and one of them.
EIGHT_RULES = (4, tuple((above, 0, new, STAY) for above in range(4) for new in (1, 2)))


def first_line(n, most, is_unlike):
    """The first of the shortest lines, of at most so many nodes, that are unlike."""
    for line in lines_up_to(n, most):
        if is_unlike(line):
            return line
    return None


def pairs_of_books():
    """Pairs of settled books: unlike ones, and ones that differ in the order of rules or in one rule."""
    chance = random.Random(1)
    for books in (settled_books_of_two_states(), settled_books(41, 150, 3, 5), settled_books(42, 120, 4, 5)):
        for book in chance.sample(books, min(40, len(books))):
            yield book, chance.choice(books)
            yield from ((book, other) for other in books_with_another_signal(chance, book))
    for book in SETTLED:
        yield book, (book[0], book[1][::-1])
        for number in range(len(book[1])):
            other = chosen(book, [k for k in range(len(book[1])) if k != number])
            if is_settled_by_certificate(other):
                yield book, other
                yield other, book


def books_with_another_signal(chance, book):
    """Settled books that differ in one entry of one signal."""
    n = book[0]
    for number in range(len(book[1])):
        path = (1, number, 3, chance.randrange(n))
        other = replaced(book, path, (part_at(book, path) + 1) % n)
        if len(set(other[1])) == len(other[1]) and is_settled_by_certificate(other):
            yield other


def chosen(book, numbers):
    return (book[0], tuple(book[1][number] for number in numbers))


def choices(many):
    """All ascending lists of numbers below many, the shorter ones first, else as lists are ordered."""
    for length in range(many + 1):
        yield from (list(numbers) for numbers in itertools.combinations(range(many), length))


def have_equal_rests(book, other, most):
    return all(
        rest_by_last_steps(book, line) == rest_by_last_steps(other, line) for line in lines_up_to(book[0], most)
    )


class FirstDifference(unittest.TestCase):
    def test_books_without_a_difference(self):
        for book in SETTLED:
            self.assertIsNone(first_difference(book, book))
            self.assertIsNone(first_difference(book, (book[0], book[1][::-1])))

    def test_the_example_and_no_rules(self):
        self.assertEqual(first_difference(EXAMPLE, (2, ())), (1, (-1,), (0,)))
        self.assertEqual(first_difference((2, ()), EXAMPLE), (1, (-1,), (0,)))

    def test_children_that_are_told_unlike_things(self):
        # A root in state 1 goes to 0 by each of the books, below an outside in state 2 only.
        one = (3, ((2, 1, 0, (0, 1, 2)),))
        for signal, states in (((1, 2, 2), (1, 0)), ((0, 2, 2), (1, 1)), ((0, 0, 2), (1, 1)), ((2, 2, 2), (1, 0))):
            self.assertEqual(first_difference(one, (3, ((2, 1, 0, signal),))), (2, (-1, 0), states))
        self.assertEqual(first_difference(one, (3, ())), (2, (-1,), (1,)))
        self.assertEqual(first_difference((3, ((0, 2, 1, (0, 1, 2)),)), one), (0, (-1,), (2,)))

    def test_the_first_of_the_shortest_lines(self):
        lengths = set()
        for one, other in pairs_of_books():
            found = first_difference(one, other)
            most = 4 if one[0] < 4 else 3
            expected = first_line(one[0], most, lambda line: self.rests(one, line) != self.rests(other, line))
            if found is None or len(found[2]) <= most:
                self.assertEqual(found, expected, (one, other))
            else:
                self.assertIsNone(expected)
            lengths.add(None if found is None else len(found[2]))
        self.assertTrue({None, 1, 2} <= lengths, lengths)

    def rests(self, book, line):
        return rest_by_last_steps(book, line)[2]

    def test_answers(self):
        check_answers(self, first_difference, [TWO_DOWN, ON_AND_ON], ["book", "other"])
        check_answers(self, first_difference, [TWO_DOWN, TWO_DOWN], ["book", "other"])

    def test_errors(self):
        check_two_books(self, first_difference)


class FirstClash(unittest.TestCase):
    def test_books_without_a_clash(self):
        for book in SETTLED:
            self.assertIsNone(first_clash(book, book))
            self.assertIsNone(first_clash(book, (book[0], ())))
            self.assertIsNone(first_clash((book[0], ()), book))

    def test_two_rules_that_turn_a_root(self):
        one, other = (3, ((0, 1, 2, (0, 1, 2)),)), (3, ((0, 2, 0, (0, 1, 2)),))
        # 1 rests in 2 by the first book and then in 0 by the second one; the other way round in 2.
        self.assertEqual(first_clash(one, other), (0, (-1,), (1,)))
        self.assertEqual(first_clash(other, one), (0, (-1,), (1,)))

    def test_the_first_of_the_shortest_lines(self):
        lengths = set()
        for one, other in pairs_of_books():
            found = first_clash(one, other)
            most = 4 if one[0] < 4 else 3
            expected = first_line(one[0], most, lambda line: self.clash(one, other, line))
            if found is None or len(found[2]) <= most:
                self.assertEqual(found, expected, (one, other))
            else:
                self.assertIsNone(expected)
            lengths.add(None if found is None else len(found[2]))
        self.assertTrue({None, 1, 2} <= lengths, lengths)

    def clash(self, one, other, line):
        there = rest_by_last_steps(other, rest_by_last_steps(one, line))
        return there != rest_by_last_steps(one, rest_by_last_steps(other, line))

    def test_answers(self):
        check_answers(self, first_clash, [TWO_DOWN, ON_AND_ON], ["book", "other"])

    def test_errors(self):
        check_two_books(self, first_clash)


def check_two_books(case, asked):
    """BadBook for either, UnlikeBooks, NoEnd and NoOneRest of the first book, then of the second one."""
    check_order(case, asked, [BOOK, BOOK])
    check_needs(case, lambda book: asked(book, EXAMPLE), [BOOK], [NoEnd, NoOneRest])
    check_needs(case, lambda book: asked(EXAMPLE, book), [BOOK], [NoEnd, NoOneRest])
    for thing in NO_BOOKS:
        for book in (TWO_STATES, TWO_RESTS, SIX_ROWS):
            with case.assertRaises(BadBook):
                asked(book, thing)
    for n, book in itertools.product((1, 2, 4), (SIX_ROWS, RING, TWO_RESTS_OF_THREE)):
        for other in [(n, ()), *([TWO_STATES, TWO_RESTS] if n == 2 else [])]:
            with case.assertRaises(UnlikeBooks):
                asked(book, other)
            with case.assertRaises(UnlikeBooks):
                asked(other, book)
    for book, other, error in (
        (RING, TWO_RESTS_OF_THREE, NoEnd), (TWO_RESTS_OF_THREE, RING, NoOneRest), (RING, SIX_ROWS, NoEnd),
        (RING, RING, NoEnd), (TWO_RESTS_OF_THREE, TWO_RESTS_OF_THREE, NoOneRest), (SIX_ROWS, RING, NoEnd),
        (RING_AND_TWO_RESTS, SIX_ROWS, NoEnd), (SIX_ROWS, RING_AND_TWO_RESTS, NoEnd),
        (SIX_ROWS, TWO_RESTS_OF_THREE, NoOneRest), (TWO_RESTS_OF_THREE, RING_AND_TWO_RESTS, NoOneRest),
    ):
        with case.assertRaises(error):
            asked(book, other)


class SpareRules(unittest.TestCase):
    def test_two_rules_that_do_the_same(self):
        self.assertEqual(spare_rules(TWO_WAYS), [0, 2])
        self.assertEqual(spare_rules(chosen(TWO_WAYS, [2, 1, 0])), [0, 2])
        self.assertEqual(spare_rules(chosen(TWO_WAYS, [1, 2])), [])
        self.assertEqual(spare_rules(EXAMPLE), [])

    def test_books_without_rules(self):
        for n in (1, 2, 3, 4):
            self.assertEqual(spare_rules((n, ())), [])

    def test_by_leaving_out_each_one(self):
        found_any = 0
        for book in [*SETTLED, *settled_books_of_two_states()[::9], *settled_books(43, 200, 3, 8)]:
            with self.subTest(book=book):
                expected = []
                for number in range(len(book[1])):
                    other = chosen(book, [k for k in range(len(book[1])) if k != number])
                    if is_settled_by_certificate(other) and have_equal_rests(book, other, 3):
                        expected.append(number)
                self.assertEqual(spare_rules(book), expected)
                found_any += bool(expected)
        self.assertGreater(found_any, 10)

    def test_a_rule_that_keeps_the_book_settled(self):
        # Without rule 1 or 3 a child may rest in two ways, though runs by first rules tell no difference.
        unsettled = 0
        for book in [*settled_books_of_two_states(), *settled_books(43, 200, 3, 8)]:
            for number in range(len(book[1])):
                other = chosen(book, [k for k in range(len(book[1])) if k != number])
                if not is_settled_by_certificate(other):
                    unsettled += 1
                    self.assertNotIn(number, spare_rules(book))
        self.assertGreater(unsettled, 10)

    def test_answers(self):
        check_answers(self, spare_rules, [TWO_WAYS], ["book"])

    def test_errors(self):
        check_needs(self, spare_rules, [BOOK], [NoEnd, NoOneRest])


class FewestRules(unittest.TestCase):
    def test_the_first_of_the_fewest(self):
        self.assertEqual(fewest_rules(TWO_WAYS), [0, 1])
        self.assertEqual(fewest_rules(chosen(TWO_WAYS, [2, 1, 0])), [0, 1])
        self.assertEqual(fewest_rules(chosen(TWO_WAYS, [0, 2, 1])), [0, 2])

    def test_all_and_none(self):
        for n in (1, 2, 3, 4):
            self.assertEqual(fewest_rules((n, ())), [])
        for book in (EXAMPLE, SIX_ROWS, FOUR_DOWN):
            self.assertEqual(fewest_rules(book), list(range(len(book[1]))))

    def test_by_trying_all_choices(self):
        shorter = 0
        for book in [*settled_books_of_two_states()[:900:12], *settled_books(44, 150, 3, 6)]:
            if len(book[1]) > 7:
                continue
            with self.subTest(book=book):
                expected = next(
                    numbers for numbers in choices(len(book[1]))
                    if have_equal_rests(book, chosen(book, numbers), 3)
                    and is_settled_by_certificate(chosen(book, numbers))
                )
                self.assertEqual(fewest_rules(book), expected)
                shorter += len(expected) < len(book[1])
        self.assertGreater(shorter, 10)

    def test_seven_rules_and_eight(self):
        # Of these rules, by which all states go to 1, one under each parent state is enough.
        rules = tuple((above, 0, 1, signal) for above in (0, 1) for signal in itertools.product((0, 1), repeat=2))
        for some in (rules[:7], rules[1:], rules[::-1][:7]):
            self.assertEqual(fewest_rules((2, some)), [0, [rule[0] for rule in some].index(1 - some[0][0])])
        with self.assertRaises(TooMany):
            fewest_rules((2, rules))
        self.assertEqual(spare_rules((2, rules)), list(range(8)))

    def test_answers(self):
        check_answers(self, fewest_rules, [TWO_WAYS], ["book"])

    def test_errors(self):
        check_needs(self, fewest_rules, [BOOK], [NoEnd, NoOneRest])
        check_too_many(self, fewest_rules)


class FewestRemovals(unittest.TestCase):
    def test_settled_books(self):
        for book in SETTLED:
            self.assertEqual(fewest_removals(book), [])

    def test_a_ring_and_two_rests(self):
        self.assertEqual(fewest_removals(RING), [0])
        # Each of the two rules leaves two rests by itself, too.
        self.assertEqual(fewest_removals(TWO_RESTS), [0, 1])
        self.assertEqual(fewest_removals(RING_AND_TWO_RESTS), [0])
        self.assertEqual(fewest_removals(chosen(RING_AND_TWO_RESTS, [1, 0, 2])), [1])
        self.assertEqual(fewest_removals(chosen(RING_AND_TWO_RESTS, [2, 1, 0])), [2])

    def test_by_trying_all_choices(self):
        lengths = set()
        for book in [*random_books(45, 60, 2, 7), *random_books(46, 80, 3, 7), *random_books(47, 30, 4, 7)]:
            with self.subTest(book=book):
                found = fewest_removals(book)
                self.assertEqual(found, self.fewest_by_trying(book))
                lengths.add(len(found))
        self.assertTrue({0, 1, 2, 3} <= lengths, lengths)

    def fewest_by_trying(self, book):
        numbers = range(len(book[1]))
        return next(
            left_out for left_out in choices(len(book[1]))
            if is_settled_by_certificate(chosen(book, [k for k in numbers if k not in left_out]))
        )

    def test_seven_rules(self):
        for rules in (EIGHT_RULES[1][:7], EIGHT_RULES[1][1:], EIGHT_RULES[1][::-1][:7]):
            self.assertEqual(fewest_removals((4, rules)), self.fewest_by_trying((4, rules)))

    def test_answers(self):
        check_answers(self, fewest_removals, [RING], ["book"])

    def test_errors(self):
        check_order(self, fewest_removals, [BOOK])
        check_too_many(self, fewest_removals)


def check_too_many(case, asked):
    """TooMany for a book with more than seven rules, also with a ring or with two rests."""
    ring = tuple((above, own, 1 - own, (0, 0, 0, 0)) for above in range(4) for own in (0, 1))
    settled = tuple((above, own, 3, (3, 3, 3, 3)) for above in range(4) for own in range(3))
    for rules in (EIGHT_RULES[1], ring, settled[:8], settled, settled[:9], ring + settled[2::3]):
        with case.assertRaises(TooMany):
            asked((4, rules))
    for thing in NO_BOOKS:
        with case.assertRaises(BadBook):
            asked(thing)
    with case.assertRaises(BadBook):
        asked((4, EIGHT_RULES[1] + (None,)))


class RestsOfSmallerBooks(unittest.TestCase):
    def test_fewest_rules_give_all_trees_their_rests(self):
        for book in settled_books(44, 150, 3, 6)[:30]:
            smaller = chosen(book, fewest_rules(book))
            for line in lines_up_to(3, 3):
                self.assertEqual(rest_of(smaller, line), rest_of(book, line))


if __name__ == "__main__":
    unittest.main()
