"""Ways of one node: points 15 to 17."""

import copy
import itertools
import unittest

from onerest.errors import BadBook, BadState, BadWay, NoEnd
from onerest.ways import first_way, node_rests, node_results, way_result
from tests.brute import all_books_that_end, has_ring_by_the_words, random_books, results_by_the_words
from tests.brute import tree_behind_steps, walks_by_the_words
from tests.checks import BOOK, STATE, check_answers, check_needs
from tests.samples import BIG, BOOKS, EXAMPLE, FOUR_STATES, NO_NUMBERS, OTHERS, TWO_RESTS, TWO_STATES

# Under a parent in state 0 a node in state 0 has the ways 0 3, 1 and 2 4 to rest; 5 and 6 are for other parents.
WAYS = (3, (
    (0, 0, 1, (1, 1, 2)),
    (0, 0, 2, (2, 0, 1)),
    (0, 0, 1, (0, 0, 0)),
    (0, 1, 2, (0, 2, 2)),
    (0, 1, 2, (0, 1, 2)),
    (1, 0, 1, (0, 1, 2)),
    (2, 2, 0, (1, 1, 1)),
))


def books_that_end():
    yield from all_books_that_end()
    for n, seed in ((3, 11), (4, 12)):
        yield from (book for book in random_books(seed, 100, n, 9) if not has_ring_by_the_words(book))


def states_of(book, many):
    return itertools.product(range(book[0]), repeat=many)


class WayResult(unittest.TestCase):
    def test_the_empty_way(self):
        for book in BOOKS:
            for above, own in states_of(book, 2):
                self.assertEqual(way_result(book, above, own, []), (own, tuple(range(book[0]))))

    def test_ways_of_one_and_two_rules(self):
        self.assertEqual(way_result(WAYS, 0, 0, [0]), (1, (1, 1, 2)))
        self.assertEqual(way_result(WAYS, 0, 0, [1]), (2, (2, 0, 1)))
        self.assertEqual(way_result(WAYS, 0, 0, [0, 3]), (2, (2, 2, 2)))
        self.assertEqual(way_result(WAYS, 0, 0, [0, 4]), (2, (1, 1, 2)))
        self.assertEqual(way_result(WAYS, 0, 1, [3]), (2, (0, 2, 2)))
        self.assertEqual(way_result(WAYS, 1, 0, [5]), (1, (0, 1, 2)))

    def test_signals_in_order(self):
        # 1 goes to 2 and then to 0; by the same signals the other way round it stays 1 and then goes to 2.
        book = (3, ((0, 0, 1, (0, 2, 2)), (0, 1, 2, (0, 1, 0)), (0, 2, 1, (0, 2, 2)), (0, 0, 2, (0, 1, 0))))
        self.assertEqual(way_result(book, 0, 0, [0, 1]), (2, (0, 0, 0)))
        self.assertEqual(way_result(book, 0, 0, [3, 2]), (1, (0, 2, 0)))

    def test_all_walks_in_trees(self):
        for book in [*BOOKS, WAYS, *random_books(13, 60, 3, 6), *random_books(14, 30, 4, 6)]:
            n = book[0]
            for above, own in states_of(book, 2):
                tree = (above, (-1,) + (0,) * n, (own, *range(n)))
                for walk, _ in walks_by_the_words(book, above, own, 4):
                    states = tree_behind_steps(book, tree, [(0, number) for number in walk])[2]
                    self.assertEqual(way_result(book, above, own, walk), (states[0], states[1:]))

    def test_a_ring_of_one_thousand_rules(self):
        self.assertEqual(way_result(TWO_STATES, 0, 0, [0, 1] * 500), (0, (0, 1)))
        self.assertEqual(way_result(TWO_STATES, 0, 0, [0, 1] * 499 + [3]), (1, (0, 0)))
        self.assertEqual(way_result(TWO_STATES, 0, 0, [0, 1] * 499), (0, (1, 0)))

    def test_place_of_the_first_bad_entry(self):
        for above, own, numbers, place in (
            (0, 0, [3], 0), (0, 0, [5], 0), (1, 0, [0], 0), (0, 2, [6], 0), (0, 0, [0, 0], 1), (0, 0, [0, 1], 1),
            (0, 0, [1, 3], 1), (0, 0, [2, 3, 3], 2), (0, 0, [0, 3, 6], 2), (0, 0, [3, 0], 0), (0, 0, [7], 0),
            (0, 0, [0, 7], 1), (0, 0, [-7], 0), (0, 0, [0, -4], 1), (0, 0, [BIG], 0), (0, 0, [0, 3, -BIG, BIG], 2),
            (2, 1, [0], 0), (0, 1, [0, 3], 0),
        ):
            with self.subTest(numbers=numbers), self.assertRaises(BadWay) as caught:
                way_result(WAYS, above, own, numbers)
            self.assertEqual(caught.exception.place, place)

    def test_any_object_as_an_entry(self):
        for thing in NO_NUMBERS:
            for numbers, place in (([thing], 0), ([thing, 0], 0), ([0, thing], 1), ([0, 3, thing, thing], 2)):
                with self.assertRaises(BadWay) as caught:
                    way_result(WAYS, 0, 0, numbers)
                self.assertEqual(caught.exception.place, place)

    def test_a_book_without_rules(self):
        for thing in OTHERS:
            with self.assertRaises(BadWay):
                way_result((2, ()), 0, 0, [thing])

    def test_the_list_stays_as_it_is(self):
        numbers = [0, 3]
        way_result(WAYS, 0, 0, numbers)
        self.assertEqual(numbers, [0, 3])
        numbers = [0, 3, None, "x"]
        held = copy.copy(numbers)
        with self.assertRaises(BadWay):
            way_result(WAYS, 0, 0, numbers)
        self.assertEqual(numbers, held)

    def test_kinds(self):
        state, signal = way_result(WAYS, 0, 0, [0, 3])
        self.assertEqual((type(way_result(WAYS, 0, 0, [])), type(state), type(signal)), (tuple, int, tuple))

    def test_answers(self):
        check_answers(self, way_result, [WAYS, 0, 0, [0, 3]], ["book", "above", "own", "numbers"])

    def test_errors(self):
        check_needs(self, way_result, [BOOK, STATE, STATE, ([], [[None], [9]], BadWay)], [])
        with self.assertRaises(BadBook):
            way_result((2, [()]), None, None, [None])
        with self.assertRaises(BadState):
            way_result(WAYS, 0, 3, [None])


class NodeRests(unittest.TestCase):
    def test_one_and_several(self):
        book = (4, ((1, 0, 2, (0,) * 4), (1, 0, 1, (0,) * 4), (1, 2, 3, (0,) * 4), (1, 2, 1, (0,) * 4)))
        self.assertEqual(node_rests(book, 1, 0), [1, 3])
        self.assertEqual(node_rests(book, 1, 2), [1, 3])
        self.assertEqual(node_rests(book, 1, 3), [3])
        self.assertEqual(node_rests(book, 0, 0), [0])
        self.assertEqual(node_rests(EXAMPLE, 1, 0), [1])

    def test_all_walks(self):
        many = set()
        for book in books_that_end():
            for above, own in states_of(book, 2):
                found = node_rests(book, above, own)
                rests = {rest for rest, _ in results_by_the_words(book, above, own, 0)}
                self.assertEqual(found, sorted(rests))
                many.add(len(found))
        self.assertIn(2, many)

    def test_answers(self):
        check_answers(self, node_rests, [WAYS, 0, 0], ["book", "above", "own"])

    def test_errors(self):
        check_needs(self, node_rests, [BOOK, STATE, STATE], [NoEnd])


class NodeResults(unittest.TestCase):
    def test_in_order_and_without_duplicates(self):
        # Behind 0 3, 0 4, 1, 2 3 and 2 4 a child's state 0 is 2, 1, 2, 0 and 0.
        self.assertEqual(node_results(WAYS, 0, 0, 0), [(2, 0), (2, 1), (2, 2)])
        self.assertEqual(node_results(WAYS, 0, 0, 1), [(2, 0), (2, 1), (2, 2)])
        self.assertEqual(node_results(WAYS, 0, 0, 2), [(2, 0), (2, 1), (2, 2)])
        self.assertEqual(node_results(WAYS, 0, 1, 1), [(2, 1), (2, 2)])
        self.assertEqual(node_results(WAYS, 0, 2, 1), [(2, 1)])
        self.assertEqual(node_results(TWO_RESTS, 0, 0, 0), [(1, 0), (1, 1)])
        self.assertEqual(node_results(TWO_RESTS, 0, 1, 1), [(1, 1)])

    def test_unlike_rests(self):
        book = (3, ((1, 0, 2, (2, 1, 0)), (1, 0, 1, (1, 1, 1)), (1, 0, 2, (1, 0, 0))))
        self.assertEqual(node_results(book, 1, 0, 0), [(1, 1), (2, 1), (2, 2)])
        self.assertEqual(node_results(book, 1, 0, 2), [(1, 1), (2, 0)])

    def test_all_walks(self):
        for book in books_that_end():
            for above, own, child in states_of(book, 3):
                self.assertEqual(
                    node_results(book, above, own, child), results_by_the_words(book, above, own, child)
                )

    def test_kinds(self):
        self.assertEqual({type(result) for result in node_results(WAYS, 0, 0, 0)}, {tuple})

    def test_answers(self):
        check_answers(self, node_results, [WAYS, 0, 0, 1], ["book", "above", "own", "child"])

    def test_errors(self):
        check_needs(self, node_results, [BOOK, STATE, STATE, STATE], [NoEnd])


class FirstWay(unittest.TestCase):
    def test_always_the_least_number(self):
        self.assertEqual(first_way(WAYS, 0, 0), [0, 3])
        self.assertEqual(first_way(WAYS, 0, 1), [3])
        self.assertEqual(first_way(WAYS, 0, 2), [])
        self.assertEqual(first_way(WAYS, 1, 0), [5])
        self.assertEqual(first_way(WAYS, 2, 2), [6])
        self.assertEqual(first_way(FOUR_STATES, 0, 3), [1])

    def test_the_least_of_all_walks_to_rest(self):
        for book in books_that_end():
            for above, own in states_of(book, 2):
                walks = [
                    walk for walk, state in walks_by_the_words(book, above, own, book[0])
                    if not any(rule[:2] == (above, state) for rule in book[1])
                ]
                self.assertEqual(first_way(book, above, own), min(walks))

    def test_answers(self):
        check_answers(self, first_way, [WAYS, 0, 0], ["book", "above", "own"])

    def test_errors(self):
        check_needs(self, first_way, [BOOK, STATE, STATE], [NoEnd])


class NoEndOfWays(unittest.TestCase):
    def test_a_ring_under_another_parent_state(self):
        book = (2, ((1, 0, 1, (0, 0)), (1, 1, 0, (0, 0))))
        for asked, many in ((node_rests, 2), (node_results, 3), (first_way, 2)):
            for states in states_of(book, many):
                with self.assertRaises(NoEnd):
                    asked(book, *states)


if __name__ == "__main__":
    unittest.main()
