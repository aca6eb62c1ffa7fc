"""One rest or two: points 18 to 25, and the example of point 48."""

import itertools
import random
import unittest

from onerest.errors import BadBook, NoEnd
from onerest.outcomes import outcome_holds, outcome_of
from tests.brute import all_books_that_end, all_lines, has_ring_by_the_words, nodes_of_two_rests, points_that_fail
from tests.brute import random_books, rest_by_last_steps, rests_by_all_runs, small_trees, steps_by_the_words
from tests.brute import tree_behind_steps
from tests.checks import BOOK, check_answers, check_order
from tests.samples import BIG, BOOKS, EXAMPLE, EXAMPLE_TREE, NO_NUMBERS, NO_STEPS, NO_TREES, ONE_STATE, OTHERS
from tests.samples import TWO_RESTS, TWO_STATES, line_of, line_of_states, misformed

EXAMPLE_TRIPLES = [(0, 0, 0), (0, 1, 1), (1, 0, 0), (1, 0, 1), (1, 1, 0), (1, 1, 1)]
TWO_RESTS_RUNS = ("two", (0, (-1, 0), (0, 0)), [(0, 0)], [(0, 1)])

# The lines with two rests of these books have six nodes or more.
SIX_NODES = [
    (3, ((1, 2, 0, (0, 0, 0)), (0, 0, 1, (2, 0, 2)), (0, 2, 0, (1, 0, 2)))),
    (3, ((0, 1, 0, (2, 0, 2)), (0, 0, 2, (1, 1, 0)), (2, 1, 0, (0, 0, 1)))),
]
SIX_NODES_OF_FOUR_STATES = (4, ((3, 0, 3, (0, 1, 0, 1)), (3, 1, 3, (0, 0, 3, 1))))

TWELVE_RULES = (4, tuple((above, own, 3, (own,) * 4) for above in range(4) for own in range(3)))


def books_that_end(seed, many, n, most_rules):
    return [book for book in random_books(seed, many, n, most_rules) if not has_ring_by_the_words(book)]


def check_two(case, book, found):
    """Point 20, but for the number of nodes: two runs of the line, taken step by step."""
    word, line, one, other = found
    case.assertEqual((word, type(one), type(other)), ("two", list, list))
    case.assertEqual(line, line_of_states(line[0], line[2]))
    rests = [tree_behind_steps(book, line, steps) for steps in (one, other)]
    for rest in rests:
        case.assertEqual(steps_by_the_words(book, rest), [])
    case.assertNotEqual(*rests)


class OutcomeOf(unittest.TestCase):
    def test_the_example(self):
        self.assertEqual(outcome_of(EXAMPLE), ("one", EXAMPLE_TRIPLES))

    def test_books_without_rules(self):
        self.assertEqual(outcome_of(ONE_STATE), ("one", [(0, 0, 0)]))
        for n in (2, 3, 4):
            triples = [(above, state, state) for above in range(n) for state in range(n)]
            self.assertEqual(outcome_of((n, ())), ("one", triples))

    def test_the_rests_of_one_node(self):
        book = (3, ((2, 0, 1, (0, 0, 0)), (2, 0, 2, (0, 0, 0))))
        check_two(self, book, outcome_of(book))
        self.assertEqual(outcome_of(book)[1], (2, (-1,), (0,)))

    def test_two_rests_by_the_order_of_two_nodes(self):
        # The child fires before or after its parent, which then tells it to go elsewhere.
        book = (3, ((0, 0, 1, (1, 1, 2)), (0, 1, 2, (0, 1, 2))))
        check_two(self, book, outcome_of(book))
        self.assertEqual(nodes_of_two_rests(book, 3), len(outcome_of(book)[1][2]))

    def test_all_books_of_two_states(self):
        lengths = set()
        for book in all_books_that_end():
            found = outcome_of(book)
            nodes = nodes_of_two_rests(book, 4)
            lengths.add(nodes)
            with self.subTest(book=book):
                if found[0] == "one":
                    self.assertIsNone(nodes)
                    self.check_triples(book, found[1], 2)
                else:
                    check_two(self, book, found)
                    self.assertEqual(len(found[1][2]), nodes)
        self.assertEqual(lengths, {None, 2, 3, 4})

    def test_random_books_of_three_states(self):
        lengths = set()
        for book in books_that_end(21, 120, 3, 5):
            with self.subTest(book=book):
                lengths.add(self.check_up_to(book, 4, 3))
        self.assertTrue({None, 1, 2, 3} <= lengths, lengths)

    def test_random_books_of_four_states(self):
        for book in books_that_end(22, 80, 4, 6):
            with self.subTest(book=book):
                self.check_up_to(book, 3, 2)

    def check_up_to(self, book, most, most_below):
        """Compare the outcome with all lines of so many nodes; return the number of nodes of two rests."""
        found = outcome_of(book)
        nodes = nodes_of_two_rests(book, most)
        if found[0] == "one":
            self.assertIsNone(nodes)
            self.check_triples(book, found[1], most_below)
        else:
            check_two(self, book, found)
            self.assertEqual(nodes, len(found[1][2]) if len(found[1][2]) <= most else None)
        return nodes

    def check_triples(self, book, triples, most):
        """Point 19: those that agree above all lines of so many nodes, which is enough for these books."""
        states = range(book[0])
        self.assertIsInstance(triples, list)
        self.assertEqual({type(triple) for triple in triples}, {tuple})
        agreeing = [
            (above, a, b) for above, a, b in itertools.product(states, repeat=3)
            if all(
                rest_by_last_steps(book, line_of_states(above, (a, *below)))[2]
                == rest_by_last_steps(book, line_of_states(above, (b, *below)))[2]
                for nodes in range(most + 1) for below in itertools.product(states, repeat=nodes)
            )
        ]
        self.assertEqual(triples, agreeing)

    def test_trees_have_no_fewer_nodes(self):
        for book in [*books_that_end(23, 40, 2, 6), *books_that_end(24, 40, 3, 5)]:
            found = outcome_of(book)
            fewest = 4 if found[0] == "one" else len(found[1][2])
            met = {}
            for tree in small_trees(book, min(3, fewest - 1)):
                self.assertEqual(len(rests_by_all_runs(book, tree, met)), 1)

    def test_six_nodes(self):
        for book in SIX_NODES:
            self.assertEqual(nodes_of_two_rests(book, 6), 6)
        for book in [*SIX_NODES, SIX_NODES_OF_FOUR_STATES]:
            found = outcome_of(book)
            check_two(self, book, found)
            self.assertEqual(len(found[1][2]), 6)
        self.assertIsNone(nodes_of_two_rests(SIX_NODES_OF_FOUR_STATES, 4))

    def test_twelve_rules(self):
        self.assertEqual(len(TWELVE_RULES[1]), 12)
        found = outcome_of(TWELVE_RULES)
        self.assertIs(outcome_holds(TWELVE_RULES, found), True)
        self.check_up_to(TWELVE_RULES, 3, 2)

    def test_answers(self):
        check_answers(self, outcome_of, [EXAMPLE], ["book"])
        check_answers(self, outcome_of, [TWO_RESTS], ["book"])

    def test_errors(self):
        check_order(self, outcome_of, [BOOK])
        for book in (TWO_STATES, (3, ((2, 0, 1, (0, 0, 0)), (2, 1, 0, (0, 0, 0))))):
            with self.assertRaises(NoEnd):
                outcome_of(book)


class OutcomeHoldsOfOne(unittest.TestCase):
    def test_what_outcome_of_returns(self):
        books = [*all_books_that_end(), *books_that_end(25, 150, 3, 8), *books_that_end(26, 150, 4, 9)]
        for book in [*books, *SIX_NODES, TWELVE_RULES]:
            self.assertIs(outcome_holds(book, outcome_of(book)), True)

    def test_any_order_and_duplicates(self):
        chance = random.Random(1)
        for _ in range(20):
            triples = EXAMPLE_TRIPLES + chance.choices(EXAMPLE_TRIPLES, k=chance.randrange(5))
            chance.shuffle(triples)
            self.assertIs(outcome_holds(EXAMPLE, ("one", triples)), True)
        self.assertIs(outcome_holds(EXAMPLE, ("one", EXAMPLE_TRIPLES * 200)), True)

    def test_all_lists_of_triples_of_two_states(self):
        everything = list(itertools.product((0, 1), repeat=3))
        alone = set()
        chance = random.Random(2)
        for book in [EXAMPLE, TWO_RESTS, *chance.sample(list(all_books_that_end()), 40)]:
            for chosen in range(256):
                triples = [triple for place, triple in enumerate(everything) if chosen >> place & 1]
                failing = points_that_fail(book, triples)
                if len(failing) == 1:
                    alone.add(failing[0])
                self.assertIs(outcome_holds(book, ("one", triples)), failing == [], (book, triples))
        self.assertTrue({22, 23} <= alone, alone)

    def test_lists_of_triples_of_three_and_four_states(self):
        chance = random.Random(3)
        alone = set()
        held = 0
        for book in [*books_that_end(27, 150, 3, 5), *books_that_end(28, 60, 4, 6)]:
            n = book[0]
            found = outcome_of(book)
            for triples in self.lists_near(chance, n, found[1] if found[0] == "one" else []):
                failing = points_that_fail(book, triples)
                if len(failing) == 1:
                    alone.add(failing[0])
                held += not failing
                self.assertIs(outcome_holds(book, ("one", triples)), failing == [], (book, triples))
        self.assertEqual(alone, {22, 23, 24, 25})
        self.assertGreater(held, 100)

    def lists_near(self, chance, n, triples):
        everything = list(itertools.product(range(n), repeat=3))
        same = [triple for triple in everything if triple[1] == triple[2]]
        yield same
        yield everything
        yield triples
        for _ in range(3):
            yield [triple for triple in triples if triple in same or chance.randrange(3)]
            yield triples + same + [chance.choice(everything)]
            yield [triple for triple in triples if chance.randrange(9)]

    def test_shorter_and_longer_lists(self):
        same = [triple for triple in EXAMPLE_TRIPLES if triple[1] == triple[2]]
        for triples in (same, same + [(1, 0, 1)], same + [(1, 1, 0)]):
            self.assertIs(outcome_holds(EXAMPLE, ("one", triples)), True)
        for triples in ([], same[1:], same[:-1], [(1, 0, 1), (1, 1, 0)]):
            self.assertIs(outcome_holds(EXAMPLE, ("one", triples)), False)
        for extra in ((0, 0, 1), (0, 1, 0)):
            self.assertIs(outcome_holds(EXAMPLE, ("one", EXAMPLE_TRIPLES + [extra])), False)
            self.assertIs(outcome_holds(EXAMPLE, ("one", same + [extra])), False)

    def test_books_that_need_more_than_equal_states(self):
        enough = set()
        for book in all_books_that_end():
            if outcome_of(book)[0] == "one":
                same = [(above, a, a) for above in (0, 1) for a in (0, 1)]
                held = outcome_holds(book, ("one", same))
                self.assertIs(held, points_that_fail(book, same) == [])
                enough.add(held)
        self.assertEqual(enough, {True, False})

    def test_a_fork_with_several_ways_below_it(self):
        # Rules 0 and 2 leave a child in unlike states that agree, and each of them needs its own triple.
        book = (3, ((2, 1, 2, (0, 1, 2)), (2, 0, 1, (0, 1, 2)), (2, 1, 2, (0, 2, 0))))
        triples = outcome_of(book)[1]
        shorter = [triple for triple in triples if triple != (2, 1, 0)]
        self.assertEqual(len(shorter), len(triples) - 1)
        self.assertEqual(points_that_fail(book, shorter), [25])
        self.assertIs(outcome_holds(book, ("one", triples)), True)
        self.assertIs(outcome_holds(book, ("one", shorter)), False)

    def test_no_list_holds_for_a_book_with_two_rests(self):
        everything = list(itertools.product((0, 1), repeat=3))
        for book in all_books_that_end():
            if outcome_of(book)[0] == "two":
                for triples in (everything, [triple for triple in everything if triple[1] == triple[2]], []):
                    self.assertIs(outcome_holds(book, ("one", triples)), False)

    def test_parts_of_a_wrong_form(self):
        for thing in [*NO_NUMBERS, -1, 2, BIG, -BIG]:
            for triple in ((thing, 0, 0), (0, thing, 0), (0, 0, thing)):
                self.assertIs(outcome_holds(EXAMPLE, ("one", EXAMPLE_TRIPLES + [triple])), False)
        for triple in ((), (0,), (0, 0), (0, 0, 0, 0), [0, 0, 0], "000", *OTHERS):
            self.assertIs(outcome_holds(EXAMPLE, ("one", EXAMPLE_TRIPLES + [triple])), False)
            self.assertIs(outcome_holds(EXAMPLE, ("one", [triple] + EXAMPLE_TRIPLES)), False)
        for triples in (tuple(EXAMPLE_TRIPLES), set(EXAMPLE_TRIPLES), dict.fromkeys(EXAMPLE_TRIPLES), *OTHERS):
            self.assertIs(outcome_holds(EXAMPLE, ("one", triples)), False)
        for triple in misformed((1, 0, 1)):
            self.assertIs(outcome_holds(EXAMPLE, ("one", EXAMPLE_TRIPLES + [triple])), False)

    def test_another_form(self):
        for thing in (
            ["one", EXAMPLE_TRIPLES], ("one",), ("one", EXAMPLE_TRIPLES, []), (EXAMPLE_TRIPLES, "one"),
            ("two", EXAMPLE_TRIPLES), ("One", EXAMPLE_TRIPLES), (b"one", EXAMPLE_TRIPLES), ("", EXAMPLE_TRIPLES),
            "one", EXAMPLE_TRIPLES, ("one", EXAMPLE_TRIPLES, [], []),
        ):
            self.assertIs(outcome_holds(EXAMPLE, thing), False)
        for thing in OTHERS:
            self.assertIs(outcome_holds(EXAMPLE, thing), False)
            self.assertIs(outcome_holds(EXAMPLE, (thing, EXAMPLE_TRIPLES)), False)
            self.assertIs(outcome_holds(EXAMPLE, (thing, thing)), False)

    def test_answers(self):
        check_answers(self, outcome_holds, [EXAMPLE, ("one", EXAMPLE_TRIPLES)], ["book", "certificate"])
        check_answers(self, outcome_holds, [TWO_RESTS, TWO_RESTS_RUNS], ["book", "certificate"])

    def test_errors(self):
        for certificate in (None, ("one", EXAMPLE_TRIPLES), TWO_RESTS_RUNS, *OTHERS):
            with self.assertRaises(NoEnd):
                outcome_holds(TWO_STATES, certificate)
            for book in (None, (2, ()) + ((),), (0, ())):
                with self.assertRaises(BadBook):
                    outcome_holds(book, certificate)
        check_order(self, outcome_holds, [BOOK, (None, [None], None)])


class OutcomeHoldsOfTwo(unittest.TestCase):
    def test_any_tree(self):
        tree = (0, (-1, -1, 1, 1), (0, 0, 1, 0))
        one = [(1, 0), (0, 1)]
        self.assertIs(outcome_holds(TWO_RESTS, ("two", tree, one, [(0, 0), (1, 1)])), True)
        self.assertIs(outcome_holds(TWO_RESTS, ("two", tree, [(0, 0), (1, 1)], one)), True)
        self.assertIs(outcome_holds(TWO_RESTS, ("two", tree, one, [(0, 0), (1, 0)])), False)
        # Behind rule 0 each second node goes on, and behind rule 1 the third one and each second one below it.
        one = [(node, 0) for node in range(0, 250, 2)]
        other = [(0, 1)] + [(node, 0) for node in range(3, 250, 2)]
        self.assertIs(outcome_holds(TWO_RESTS, ("two", line_of(250), one, other)), True)
        self.assertIs(outcome_holds(TWO_RESTS, ("two", line_of(250), one, other[:-1])), False)

    def test_all_pairs_of_short_runs(self):
        # All lists of at most three steps, of a tree with two children.
        tree = (0, (-1, 0, 0), (0, 0, 1))
        steps = list(itertools.product(range(3), range(2)))
        lists = [list(chosen) for many in range(3) for chosen in itertools.product(steps, repeat=many)]
        rests = [self.rest_behind(TWO_RESTS, tree, chosen) for chosen in lists]
        held = 0
        for (one, rest), (other, other_rest) in itertools.product(list(zip(lists, rests)), repeat=2):
            good = None not in (rest, other_rest) and rest != other_rest
            held += good
            self.assertIs(outcome_holds(TWO_RESTS, ("two", tree, one, other)), good)
        self.assertGreater(held, 0)

    def rest_behind(self, book, tree, steps):
        try:
            tree = tree_behind_steps(book, tree, steps)
        except AssertionError:
            return None
        return None if steps_by_the_words(book, tree) else tree

    def test_equal_rests_by_unlike_runs(self):
        tree = (1, (-1, -1), (0, 0))
        for one, other in (([(0, 0), (1, 0)], [(1, 0), (0, 0)]), ([(0, 0), (1, 0)], [(0, 0), (1, 0)])):
            self.assertIs(outcome_holds(EXAMPLE, ("two", tree, one, other)), False)

    def test_a_run_that_does_not_end_at_rest(self):
        tree = (0, (-1, -1, 0), (0, 0, 0))
        one, other = [(0, 0), (1, 0)], [(0, 1), (1, 0)]
        self.assertIs(outcome_holds(TWO_RESTS, ("two", tree, one, other)), True)
        for short in (one[:1], one[:0]):
            self.assertIs(outcome_holds(TWO_RESTS, ("two", tree, short, other)), False)
            self.assertIs(outcome_holds(TWO_RESTS, ("two", tree, other, short)), False)

    def test_steps_that_cannot_be_taken(self):
        _, line, one, other = TWO_RESTS_RUNS
        # Behind the first step none can be taken, neither this one again nor another one.
        spoilt = [[(0, 0), step] for step in ((0, 0), (0, 1), (1, 0), (1, 1))]
        for thing in NO_STEPS:
            spoilt += [[(0, 0), thing], [(0, 1), thing, (0, 0)]]
        for steps in spoilt:
            self.assertIs(outcome_holds(TWO_RESTS, ("two", line, steps, other)), False)
            self.assertIs(outcome_holds(TWO_RESTS, ("two", line, one, steps)), False)
            self.assertIs(outcome_holds(TWO_RESTS, ("two", line, other, steps)), False)

    def test_no_tree_of_the_book(self):
        _, line, one, other = TWO_RESTS_RUNS
        for thing in [*NO_TREES, *misformed(line)]:
            self.assertIs(outcome_holds(TWO_RESTS, ("two", thing, one, other)), False)

    def test_parts_of_a_wrong_form(self):
        _, line, one, other = TWO_RESTS_RUNS
        for thing in [*OTHERS, tuple(one), tuple(other), [list(step) for step in one]]:
            self.assertIs(outcome_holds(TWO_RESTS, ("two", line, thing, other)), False)
            self.assertIs(outcome_holds(TWO_RESTS, ("two", line, one, thing)), False)
            self.assertIs(outcome_holds(TWO_RESTS, ("two", line, thing, thing)), False)
            self.assertIs(outcome_holds(TWO_RESTS, (thing, line, one, other)), False)
            self.assertIs(outcome_holds(TWO_RESTS, thing), False)
        for thing in (
            list(TWO_RESTS_RUNS), TWO_RESTS_RUNS[:3], TWO_RESTS_RUNS + ([],), ("one", line, one, other),
            ("two", line, one), ("two", one, other, line), ("TWO", line, one, other), ("two", [line], one, other),
        ):
            self.assertIs(outcome_holds(TWO_RESTS, thing), False)

    def test_the_certificates_of_other_books(self):
        self.assertIs(outcome_holds(TWO_RESTS, TWO_RESTS_RUNS), True)
        self.assertIs(outcome_holds(EXAMPLE, TWO_RESTS_RUNS), False)
        self.assertIs(outcome_holds(TWO_RESTS, ("one", EXAMPLE_TRIPLES)), False)
        self.assertIs(outcome_holds(EXAMPLE, ("two", EXAMPLE_TREE, [(0, 0), (1, 0)], [(0, 0), (1, 0)])), False)

    def test_one_thousand_steps(self):
        # Each root takes a step, and then each of its three children.
        tree = (0, tuple([-1] * 62 + [node // 3 for node in range(186)]), (0,) * 248)
        one = [(node, 0) for node in range(62)]
        other = [(node, 1) for node in range(62)]
        self.assertIs(outcome_holds(TWO_RESTS, ("two", tree, one, other)), True)
        book = (4, ((0, 0, 1, (0,) * 4), (0, 1, 2, (0,) * 4), (0, 2, 3, (0,) * 4), (0, 2, 3, (1,) * 4)))
        star = (0, (-1,) * 249 + (248,), (0,) * 250)
        one = [(node, rule) for node in range(249) for rule in (0, 1, 2)]
        self.assertIs(outcome_holds(book, ("two", star, one, one[:-1] + [(248, 3)])), True)
        self.assertIs(outcome_holds(book, ("two", star, one, one)), False)

    def test_no_reference_to_a_list_is_kept(self):
        _, line, one, other = TWO_RESTS_RUNS
        one = list(one)
        self.assertIs(outcome_holds(TWO_RESTS, ("two", line, one, other)), True)
        one.append((0, 0))
        self.assertIs(outcome_holds(TWO_RESTS, ("two", line, one, other)), False)


class LinesOfBooks(unittest.TestCase):
    def test_all_lines_of_one_book(self):
        # The lines of two nodes of TWO_RESTS with two rests are just those that the words tell.
        two = [line for line in all_lines(2, 2) if len(rests_by_all_runs(TWO_RESTS, line)) > 1]
        self.assertEqual(two, [(0, (-1, 0), (0, 0)), (0, (-1, 0), (0, 1))])
        self.assertIn(outcome_of(TWO_RESTS)[1], two)
        for book in BOOKS:
            if not has_ring_by_the_words(book):
                self.assertIs(outcome_holds(book, outcome_of(book)), True)


if __name__ == "__main__":
    unittest.main()
