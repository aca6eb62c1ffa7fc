"""The rest, and readers: points 26 to 28, and the example of point 48."""

import itertools
import random
import unittest

from onerest.errors import BadBook, BadReader, BadStep, BadTree, NoEnd, NoOneRest
from onerest.readers import is_reader, join_runs, joined_reader, read_states, reader_holds, reader_of, rest_of
from tests.brute import lines_up_to, rest_by_last_steps, rests_by_all_runs, settled_books
from tests.brute import settled_books_of_two_states, small_trees, states_read, steps_by_the_words
from tests.brute import tree_behind_steps, tree_by_the_words
from tests.checks import BOOK, STEPS, TREE, check_answers, check_needs, check_order
from tests.samples import BIG, EXAMPLE, EXAMPLE_TREE, NO_BOOKS, NO_NUMBERS, NO_STEPS, ON_AND_ON
from tests.samples import OTHERS, SETTLED, SIX_ROWS, TWO_RESTS, TWO_STATES, line_of, misformed, paths_of, replaced

EXAMPLE_READER = ((0, 1), (((0, 0), (1, 1)), ((1, 1), (1, 1))))
# Reads each node as it is; and as the state 1 - e where the parent was in state 0 at first.
AS_IT_IS = ((0, 0), (((0, 0), (1, 0)),))
TURNED = ((0, 1), (((1, 0), (0, 1)), ((0, 0), (1, 1))))

NO_READERS = [
    *OTHERS, *misformed(EXAMPLE_READER), (), ((0, 0),), ((0, 0), ()), ((), ()), ((), (((0, 0), (1, 0)),)),
    ((0, 1), (((0, 0), (1, 0)),)), ((0, -1), (((0, 0), (1, 0)),)), ((0,), (((0, 0), (1, 0)),)),
    ((0, 0, 0), (((0, 0), (1, 0)),)), ((0, 0), (((0, 0), (2, 0)),)), ((0, 0), (((0, 0), (-1, 0)),)),
    ((0, 0), (((0, 0), (1, 1)),)), ((0, 0), (((0, 0), (1, -1)),)), ((0, 0), (((0, 0),),)),
    ((0, 0), (((0, 0), (1, 0), (1, 0)),)), ((0, 0), (((0, 0), (1, 0)), ((0, 0),))), ((0, 0), (((0, 0), (1,)),)),
    ((0, 0), (((0, 0), (1, 0, 0)),)), ((0, 0), ((0, 0), (1, 0))), ((0, 0), (((0, 0), (1, 0)),), ()),
    ((0, 0), (((0, 0), (1, 0)),) * 401), ((0,) * 5, (tuple((k, 0) for k in range(5)),)),
    ((0, BIG), (((0, 0), (1, 0)),)), ((0, 0), (((0, 0), (1, BIG)),)), ((0, 0), (((0, 0), (BIG, 0)),)),
]
# As a parameter: an object that is a reader for no n, and a reader for three states.
READER = (EXAMPLE_READER, [*NO_READERS, ((0, 0, 0), (((0, 0), (1, 0), (2, 0)),)), ((0,), (((0, 0),),))], BadReader)
ANY_READER = (EXAMPLE_READER, NO_READERS, BadReader)


def settled_sample():
    yield from SETTLED
    yield from random.Random(1).sample(settled_books_of_two_states(), 40)
    yield from settled_books(31, 150, 3, 5)
    yield from settled_books(32, 150, 4, 6)


def random_tree(chance, n, nodes):
    parents = tuple(chance.randrange(-1, node) for node in range(nodes))
    return (chance.randrange(n), parents, tuple(chance.randrange(n) for _ in range(nodes)))


def random_run(chance, book, tree, most):
    """At most so many steps, taken by chance."""
    run = []
    steps = steps_by_the_words(book, tree)
    while steps and len(run) < most:
        run.append(chance.choice(steps))
        tree = tree_by_the_words(book, tree, run[-1])
        steps = steps_by_the_words(book, tree)
    return run


def random_reader(chance, n, many):
    row = [[(chance.randrange(n), chance.randrange(many)) for _ in range(n)] for _ in range(many)]
    return (tuple(chance.randrange(many) for _ in range(n)), tuple(tuple(pairs) for pairs in row))


def with_more_rows(chance, reader, many):
    """A reader that reads as this one does, with each row several times and some that are never met."""
    starts, rows = reader
    copies = [chance.randrange(len(rows)) for _ in range(many - len(rows))]
    origins = [*range(len(rows)), *copies]
    chance.shuffle(origins)

    def some(row):
        return chance.choice([place for place, origin in enumerate(origins) if origin == row])

    return (
        tuple(some(start) for start in starts),
        tuple(tuple((state, some(after)) for state, after in rows[origin]) for origin in origins),
    )


def read_alike(n, reader, other, most):
    return all(states_read(reader, line) == states_read(other, line) for line in lines_up_to(n, most))


def read_all_alike(reader, other):
    """Whether two readers read all trees alike: no pair of rows that they come to together differs."""
    pairs = list(dict.fromkeys(zip(reader[0], other[0])))
    for row, other_row in pairs:
        for (state, after), (other_state, other_after) in zip(reader[1][row], other[1][other_row]):
            if state != other_state:
                return False
            if (after, other_after) not in pairs:
                pairs.append((after, other_after))
    return True


def rows_met(reader):
    """The rows in the order in which they are met."""
    starts, rows = reader
    met = []
    for start in starts:
        if start not in met:
            met.append(start)
    for row in met:
        met.extend(dict.fromkeys(after for _, after in rows[row] if after not in met))
    return met


class RestOf(unittest.TestCase):
    def test_the_example(self):
        self.assertEqual(rest_of(EXAMPLE, EXAMPLE_TREE), (1, (-1, 0), (1, 1)))

    def test_the_only_rest_of_all_runs(self):
        for book in [*SETTLED[:6], *settled_books(31, 30, 3, 5)]:
            met = {}
            for tree in small_trees(book, 3 if book[0] < 4 else 2):
                self.assertEqual({rest_of(book, tree)}, rests_by_all_runs(book, tree, met))

    def test_random_trees(self):
        chance = random.Random(2)
        for book in settled_sample():
            for nodes in (0, 1, 5, 12):
                tree = random_tree(chance, book[0], nodes)
                self.assertEqual(rest_of(book, tree), rest_by_last_steps(book, tree))

    def test_250_nodes(self):
        chance = random.Random(3)
        for book in SETTLED:
            tree = random_tree(chance, book[0], 250)
            self.assertEqual(rest_of(book, tree), rest_by_last_steps(book, tree))
        self.assertEqual(rest_of(EXAMPLE, line_of(250, 1, 0)), line_of(250, 1, 1))

    def test_answers(self):
        check_answers(self, rest_of, [EXAMPLE, EXAMPLE_TREE], ["book", "tree"])

    def test_errors(self):
        check_needs(self, rest_of, [BOOK, TREE], [NoEnd, NoOneRest])


class JoinRuns(unittest.TestCase):
    def test_the_example(self):
        self.assertEqual(join_runs(EXAMPLE, EXAMPLE_TREE, [], [(0, 0), (1, 0)]), ([(0, 0), (1, 0)], []))
        self.assertEqual(join_runs(EXAMPLE, EXAMPLE_TREE, [(0, 0)], []), ([(1, 0)], [(0, 0), (1, 0)]))

    def test_random_runs(self):
        chance = random.Random(4)
        for book in settled_sample():
            for nodes in (0, 1, 4, 9):
                tree = random_tree(chance, book[0], nodes)
                runs = [random_run(chance, book, tree, chance.randrange(9)) for _ in range(2)]
                found = join_runs(book, tree, *runs)
                self.assertIsInstance(found, tuple)
                self.assertEqual([type(part) for part in found], [list, list])
                for run, more in zip(runs, found):
                    self.assertEqual(tree_behind_steps(book, tree, run + more), rest_of(book, tree))

    def test_place_of_the_first_bad_step(self):
        for one, other, place in (
            ([(1, 0)], [(0, 0), None], 0), ([(0, 0), (0, 0)], [None], 1), ([(0, 0), (1, 0), (1, 0)], [], 2),
            ([], [(1, 0)], 0), ([(0, 0)], [(0, 0), (0, 0)], 1), ([(0, 0), (1, 0)], [(0, 0), (1, 0), None], 2),
        ):
            with self.assertRaises(BadStep) as caught:
                join_runs(EXAMPLE, EXAMPLE_TREE, one, other)
            self.assertEqual(caught.exception.place, place)

    def test_bad_steps_come_before_what_is_wrong_with_the_book(self):
        tree = (0, (-1, -1), (0, 0))
        for book in (TWO_RESTS, TWO_STATES):
            for one, other, place in (([(0, 0), None], [None], 1), ([(0, 0), (1, 0)], [None], 0)):
                with self.assertRaises(BadStep) as caught:
                    join_runs(book, tree, one, other)
                self.assertEqual(caught.exception.place, place)

    def test_any_object_as_a_step(self):
        for thing in NO_STEPS:
            for one, other, place in (
                ([thing], [], 0), ([], [thing], 0), ([(0, 0), thing], [thing], 1), ([(0, 0)], [(0, 0), thing], 1),
            ):
                with self.assertRaises(BadStep) as caught:
                    join_runs(EXAMPLE, EXAMPLE_TREE, one, other)
                self.assertEqual(caught.exception.place, place)

    def test_the_two_lists_are_two(self):
        one, other = join_runs(EXAMPLE, EXAMPLE_TREE, [], [])
        self.assertEqual(one, other)
        one.clear()
        self.assertEqual(other, [(0, 0), (1, 0)])
        run = []
        found = join_runs(EXAMPLE, EXAMPLE_TREE, run, run)
        run.append((0, 0))
        self.assertEqual(found, ([(0, 0), (1, 0)], [(0, 0), (1, 0)]))
        self.assertEqual(join_runs(EXAMPLE, EXAMPLE_TREE, [], []), ([(0, 0), (1, 0)], [(0, 0), (1, 0)]))

    def test_answers(self):
        arguments = [EXAMPLE, EXAMPLE_TREE, [], [(0, 0)]]
        check_answers(self, join_runs, arguments, ["book", "tree", "one", "other"])

    def test_errors(self):
        check_needs(self, join_runs, [BOOK, TREE, STEPS, STEPS], [NoEnd, NoOneRest])


class IsReader(unittest.TestCase):
    def test_readers_of_books(self):
        for book in settled_sample():
            self.assertIs(is_reader(book, reader_of(book)), True)

    def test_only_for_this_n(self):
        readers = [reader_of((n, ())) for n in (1, 2, 3, 4)]
        for n in (1, 2, 3, 4):
            self.assertEqual([is_reader((n, ()), reader) for reader in readers], [k == n for k in (1, 2, 3, 4)])

    def test_any_book(self):
        for book in (EXAMPLE, TWO_RESTS, TWO_STATES, (2, ())):
            self.assertIs(is_reader(book, EXAMPLE_READER), True)

    def test_up_to_four_hundred_rows(self):
        row = ((0, 0), (1, 0))
        for many, good in ((1, True), (2, True), (399, True), (400, True), (401, False), (402, False)):
            self.assertIs(is_reader(EXAMPLE, ((0, many - 1), (row,) * many)), good)
        self.assertIs(is_reader(EXAMPLE, ((0, 399), (((0, 399), (1, 399)),) * 400)), True)
        self.assertIs(is_reader(EXAMPLE, ((0, 400), (row,) * 400)), False)
        self.assertIs(is_reader(EXAMPLE, ((0, 0), (((0, 400), (1, 0)),) * 400)), False)

    def test_other_objects(self):
        for thing in READER[1]:
            self.assertIs(is_reader(EXAMPLE, thing), False)
        for path in paths_of(EXAMPLE_READER):
            for thing in [*NO_NUMBERS, -1, 2, BIG, -BIG]:
                self.assertIs(is_reader(EXAMPLE, replaced(EXAMPLE_READER, path, thing)), False)

    def test_answers(self):
        check_answers(self, is_reader, [EXAMPLE, EXAMPLE_READER], ["book", "thing"])

    def test_errors(self):
        for book in NO_BOOKS:
            for thing in (EXAMPLE_READER, None):
                with self.assertRaises(BadBook):
                    is_reader(book, thing)


class ReadStates(unittest.TestCase):
    def test_the_example(self):
        self.assertEqual(read_states(EXAMPLE_READER, EXAMPLE_TREE), (1, 1))
        self.assertEqual(read_states(EXAMPLE_READER, (0, (-1, 0, 1, 2, -1), (0, 0, 1, 0, 0))), (0, 0, 1, 1, 0))

    def test_the_tree_without_nodes(self):
        for reader in (EXAMPLE_READER, AS_IT_IS, TURNED):
            self.assertEqual(read_states(reader, (1, (), ())), ())

    def test_random_readers_and_trees(self):
        chance = random.Random(5)
        for _ in range(200):
            n = chance.randrange(1, 5)
            reader = random_reader(chance, n, chance.choice((1, 2, 5, 400)))
            tree = random_tree(chance, n, chance.choice((0, 1, 4, 20, 250)))
            self.assertEqual(read_states(reader, tree), states_read(reader, tree))

    def test_trees_of_other_states(self):
        for n, state in itertools.product((1, 2, 3, 4), range(5)):
            reader = reader_of((n, ()))
            for tree in ((state, (), ()), (0, (-1,), (state,))):
                if state < n:
                    self.assertEqual(read_states(reader, tree), tree[2])
                else:
                    with self.assertRaises(BadTree):
                        read_states(reader, tree)

    def test_answers(self):
        check_answers(self, read_states, [EXAMPLE_READER, EXAMPLE_TREE], ["reader", "tree"])

    def test_errors(self):
        check_order(self, read_states, [ANY_READER, TREE])


class ReaderOf(unittest.TestCase):
    def test_the_example(self):
        self.assertEqual(reader_of(EXAMPLE), EXAMPLE_READER)

    def test_books_without_rules(self):
        for n in (1, 2, 3, 4):
            self.assertEqual(reader_of((n, ())), ((0,) * n, (tuple((state, 0) for state in range(n)),)))

    def test_gives_trees_their_rests(self):
        chance = random.Random(6)
        for book in settled_sample():
            reader = reader_of(book)
            for tree in [*lines_up_to(book[0], 3), *[random_tree(chance, book[0], 15) for _ in range(5)]]:
                self.assertEqual(states_read(reader, tree), rest_by_last_steps(book, tree)[2])

    def test_all_rows_are_met_in_order_and_read_some_line_unlike(self):
        for book in settled_sample():
            n = book[0]
            reader = reader_of(book)
            self.assertEqual(rows_met(reader), list(range(len(reader[1]))))
            for row, other in itertools.combinations(range(len(reader[1])), 2):
                self.assertFalse(read_alike(n, ((row,) * n, reader[1]), ((other,) * n, reader[1]), 4))

    def test_numbers_of_rows(self):
        self.assertEqual([len(reader_of(book)[1]) for book in SETTLED], [2, 3, 5, 5, 5, 6, 8, 1, 1, 1, 1])

    def test_equal_readers_exactly_if_all_rests_are_equal(self):
        books = settled_books(31, 150, 3, 5)[:40]
        lines = list(lines_up_to(3, 4))
        rests = [[rest_by_last_steps(book, line)[2] for line in lines] for book in books]
        readers = [reader_of(book) for book in books]
        equal = 0
        for place, other in itertools.combinations(range(len(books)), 2):
            self.assertIs(readers[place] == readers[other], rests[place] == rests[other])
            equal += readers[place] == readers[other]
        self.assertGreater(equal, 0)

    def test_the_order_of_the_rules_does_not_matter(self):
        for n, rules in SETTLED:
            self.assertEqual(reader_of((n, rules[::-1])), reader_of((n, rules)))

    def test_kinds(self):
        for part in (reader_of(SIX_ROWS), *reader_of(SIX_ROWS), *reader_of(SIX_ROWS)[1], reader_of(SIX_ROWS)[1][5][2]):
            self.assertIsInstance(part, tuple)

    def test_answers(self):
        check_answers(self, reader_of, [EXAMPLE], ["book"])

    def test_errors(self):
        check_needs(self, reader_of, [BOOK], [NoEnd, NoOneRest])


class ReaderHolds(unittest.TestCase):
    def test_the_reader_of_the_book(self):
        for book in settled_sample():
            self.assertIs(reader_holds(book, reader_of(book)), True)

    def test_more_rows_than_needed(self):
        chance = random.Random(7)
        for book in [*SETTLED, *settled_books(31, 60, 3, 5)]:
            for many in (9, 17, 400):
                self.assertIs(reader_holds(book, with_more_rows(chance, reader_of(book), many)), True)

    def test_one_pair_spoilt_in_many_rows(self):
        chance = random.Random(8)
        held = set()
        for book in [*SETTLED[:7], *settled_books(31, 60, 3, 5)]:
            starts, rows = with_more_rows(chance, reader_of(book), 12)
            n = book[0]
            row, state = chance.randrange(12), chance.randrange(n)
            for spoilt in (((rows[row][state][0] + 1) % n, rows[row][state][1]), (rows[row][state][0], 0)):
                reader = replaced((starts, rows), (1, row, state), spoilt)
                good = read_all_alike(reader, reader_of(book))
                held.add(good)
                self.assertIs(reader_holds(book, reader), good)
        self.assertEqual(held, {True, False})

    def test_unlike_at_the_end_of_a_long_line(self):
        # Each row but the last one reads all states as they are and goes on to the next row.
        as_it_is = tuple(((0, after), (1, after)) for after in range(1, 400))
        for last, good in ((((0, 399), (1, 399)), True), (((0, 0), (1, 0)), True), (((0, 0), (0, 0)), False)):
            self.assertIs(reader_holds((2, ()), ((0, 0), as_it_is + (last,))), good)

    def test_starts_that_are_spoilt(self):
        self.assertIs(reader_holds(EXAMPLE, ((0, 1), EXAMPLE_READER[1])), True)
        for starts in ((0, 0), (1, 0), (1, 1)):
            self.assertIs(reader_holds(EXAMPLE, (starts, EXAMPLE_READER[1])), False)

    def test_readers_of_other_books(self):
        books = settled_books(31, 150, 3, 5)[:30]
        for book, other in itertools.product(books, repeat=2):
            self.assertIs(reader_holds(book, reader_of(other)), reader_of(book) == reader_of(other))

    def test_answers(self):
        check_answers(self, reader_holds, [EXAMPLE, EXAMPLE_READER], ["book", "reader"])

    def test_errors(self):
        check_needs(self, reader_holds, [BOOK, READER], [NoEnd, NoOneRest])


class JoinedReader(unittest.TestCase):
    def test_with_a_book_without_rules(self):
        for book in settled_sample():
            reader, nothing = reader_of(book), reader_of((book[0], ()))
            self.assertEqual(joined_reader(reader, nothing), reader)
            self.assertEqual(joined_reader(nothing, reader), reader)

    def test_a_rest_is_its_own_rest(self):
        for book in settled_sample():
            self.assertEqual(joined_reader(reader_of(book), reader_of(book)), reader_of(book))

    def test_reads_what_the_second_one_reads_in_what_the_first_one_reads(self):
        chance = random.Random(9)
        turned_around = 0
        for seed, n in ((31, 3), (32, 4), (33, 2)):
            books = settled_books(seed, 150, n, 2 + n)
            for _ in range(60):
                one, other = chance.choice(books), chance.choice(books)
                found = joined_reader(reader_of(one), reader_of(other))
                turned_around += found != joined_reader(reader_of(other), reader_of(one))
                self.assertIs(is_reader(one, found), True)
                self.check_fewest_rows(n, found)
                for _ in range(20):
                    tree = random_tree(chance, n, 8)
                    outside, parents, _ = tree
                    between = (outside, parents, states_read(reader_of(one), tree))
                    self.assertEqual(states_read(found, tree), states_read(reader_of(other), between))
        self.assertGreater(turned_around, 0)

    def check_fewest_rows(self, n, reader):
        self.assertEqual(rows_met(reader), list(range(len(reader[1]))))
        if len(reader[1]) <= 5:
            for row, other in itertools.combinations(range(len(reader[1])), 2):
                self.assertFalse(read_alike(n, ((row,) * n, reader[1]), ((other,) * n, reader[1]), 4))

    def test_answers(self):
        arguments = [reader_of(SIX_ROWS), reader_of(ON_AND_ON)]
        check_answers(self, joined_reader, arguments, ["reader", "other"])


if __name__ == "__main__":
    unittest.main()
