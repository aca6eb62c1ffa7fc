"""Long lines: points 36 and 37."""

import itertools
import random
import unittest

from onerest.errors import BadLine, BadState, NoEnd, NoNode, NoOneRest
from onerest.hands import change_reach, changed_nodes
from onerest.longlines import long_change, long_length, long_rest_counts, long_rest_index, long_rest_state, long_state
from onerest.readers import reader_of, rest_of
from tests.brute import counted_by_doubling, first_nodes, rest_by_last_steps, settled_books
from tests.brute import settled_books_of_two_states, written_out
from tests.checks import BOOK, STATE, check_answers, check_needs
from tests.samples import BIG, BOOKS, EXAMPLE, NO_NUMBERS, NO_NUMBERS_BELOW_TWO, OTHERS
from tests.samples import ROUND_AND_ROUND, SETTLED, TWO_DOWN, TWO_RESTS, TWO_STATES
from tests.samples import misformed, paths_of, replaced

MOST = 10 ** 40
LINE = (1, (((0, 1, 0), 2), ((1,), 1)))
WRONG_TIMES = [0, -1, -BIG, MOST + 1, BIG, *NO_NUMBERS]
NO_LINES = [
    *OTHERS,
    *misformed(LINE),
    *misformed((0, (((1,), 1), ((0, 1), 3)))),
    (0,), (0, (), ()), (0, None), (None, ()), ((), 0), (0, ((),)), (0, (0,)), (0, ("",)), (0, (((0,),),)),
    (0, (((0,), 1, 1),)), (0, (((0,), 1), ())), (0, ((1, (0,)),)), (0, ((0,), 1)), (0, ((0, 1), (1, 1))),
    (2, ()), (-1, ()), (BIG, ()),
    (0, (((), 1),)),
    (0, (((0,) * 13, 1),)),
    (0, (((0,), 1),) * 13),
    (0, (((0,), 1), ((), 1))),
    *[(outside, (((0,), 1),)) for outside in NO_NUMBERS_BELOW_TWO],
    *[(0, (((0,), 1), ((1, state, 1), 2))) for state in NO_NUMBERS_BELOW_TWO],
    *[(0, (((0,), times),)) for times in WRONG_TIMES],
    *[(0, (((0,), 1), ((1, 1), times))) for times in WRONG_TIMES],
]
# Places in LINE, which stands for seven nodes.
NO_INDICES = [7, 8, 10 ** 41, -1, -7, BIG, -BIG, *NO_NUMBERS]
LONG_LINE = (LINE, NO_LINES, BadLine)
INDEX = (3, NO_INDICES, NoNode)
NUMBER = (0, [-BIG], None)
NEEDS = [NoEnd, NoOneRest]
# Books with which the copies of a word are read in two or three ways in turn: from the first copy
# on, and from the second and third one on.
THREE_IN_TURN = (4, ((1, 2, 1, (2, 1, 0, 1)), (1, 0, 3, (1, 1, 1, 1))))
TWO_BEHIND_ONE = (3, (
    (1, 2, 0, (1, 1, 1)), (1, 1, 2, (0, 1, 2)), (0, 0, 2, (0, 1, 2)), (2, 0, 1, (1, 1, 0)), (0, 2, 1, (1, 1, 1)),
))
TWO_BEHIND_TWO = (3, (
    (2, 2, 0, (1, 1, 0)), (0, 1, 2, (1, 1, 1)), (2, 0, 1, (1, 1, 1)), (0, 2, 0, (1, 1, 1)), (1, 1, 2, (2, 0, 2)),
))
IN_TURN = [THREE_IN_TURN, TWO_BEHIND_ONE, TWO_BEHIND_TWO]


def settled_sample():
    yield from SETTLED
    yield from IN_TURN
    yield from settled_books_of_two_states()[::50]
    yield from settled_books(71, 150, 3, 5)
    yield from settled_books(72, 100, 4, 6)


def random_line(chance, n, most_pieces, times):
    pieces = [
        (tuple(chance.randrange(n) for _ in range(chance.randrange(1, 13))), times())
        for _ in range(chance.randrange(most_pieces + 1))
    ]
    return (chance.randrange(n), tuple(pieces))


def short_line(chance, n):
    """A random long line that stands for at most 250 nodes."""
    return first_nodes(random_line(chance, n, 12, lambda: chance.choice((1, 2, 3, 20))), 250)


def great_line(chance, n):
    return random_line(chance, n, 5, lambda: chance.choice((1, 2, 7, 50, 10 ** 6, chance.randrange(1, MOST), MOST)))


def written_otherwise(chance, line):
    """The same line in other pieces."""
    outside, pieces = line
    found = []
    for word, times in pieces:
        if len(word) <= 6 and times % 2 == 0:
            found.append((word + word, times // 2))
        elif times > 1 and chance.randrange(2):
            cut = chance.randrange(1, len(word) + 1)
            turned = word[cut:] + word[:cut]
            found += [(word[:cut], 1), (turned, times - 1)] + ([(word[cut:], 1)] if word[cut:] else [])
        elif times > 1:
            part = chance.randrange(1, times)
            found += [(word, part), (word, times - part)]
        else:
            found += [((state,), 1) for state in word]
    return (outside, tuple(found))


def counts_by_doubling(book, line):
    """How many nodes of the rest are in each state."""
    starts, rows = reader_of(book)
    counts = counted_by_doubling(dict(enumerate(rows)), starts[line[0]], line[1])
    return tuple(counts[state] for state in range(book[0]))


def unlike_counts(book, line, index, state):
    """A function that tells how many of the first nodes change if the node with the index begins in the state."""
    starts, rows = reader_of(book)
    n = book[0]
    # The changed node stands with the entry n: its own state for one reader, the new one for the other.
    own = long_state(book, line, index)
    table = {}
    for one, other in itertools.product(rows, repeat=2):
        pairs = [*zip(one, other), (one[own], other[state])]
        table[rows.index(one), rows.index(other)] = [
            (found != other_found, (after, other_after)) for (found, after), (other_found, other_after) in pairs
        ]
    marked = (line[0], (*first_nodes(line, index)[1], ((n,), 1), *behind(line, index + 1)[1]))

    def unlike_up_to(nodes):
        return counted_by_doubling(table, (starts[line[0]],) * 2, first_nodes(marked, nodes)[1])[True]

    return unlike_up_to


def behind(line, many):
    """The long line without its first nodes."""
    outside, pieces = line
    kept = []
    for word, times in pieces:
        gone = min(many, len(word) * times)
        copies, more = divmod(gone, len(word))
        many -= gone
        if more:
            kept.append((word[more:], 1))
            copies += 1
        if times > copies:
            kept.append((word, times - copies))
    return (outside, tuple(kept))


class Lines(unittest.TestCase):
    """long_length and long_state, which take any book."""

    def test_the_words_in_order(self):
        for book in (EXAMPLE, TWO_STATES, TWO_RESTS):
            self.assertEqual(long_length(book, LINE), 7)
            self.assertEqual([long_state(book, LINE, index) for index in range(7)], [0, 1, 0, 0, 1, 0, 1])

    def test_short_lines_of_any_book(self):
        chance = random.Random(1)
        for book in BOOKS * 4:
            line = short_line(chance, book[0])
            states = written_out(line)[2]
            self.assertEqual(long_length(book, line), len(states))
            self.assertEqual(tuple(long_state(book, line, index) for index in range(len(states))), states)

    def test_great_lines(self):
        line = (0, (((0, 0, 1), MOST), ((1, 2), 10 ** 39), ((2,) * 12, MOST)))
        book = (3, ())
        self.assertEqual(long_length(book, line), 3 * MOST + 2 * 10 ** 39 + 12 * MOST)
        for index, state in (
            (0, 0), (2, 1), (3, 0), (3 * MOST - 1, 1), (3 * MOST - 2, 0), (3 * MOST, 1), (3 * MOST + 1, 2),
            (3 * MOST + 2, 1), (3 * MOST + 2 * 10 ** 39 - 2, 1), (3 * MOST + 2 * 10 ** 39 - 1, 2),
            (3 * MOST + 2 * 10 ** 39, 2), (15 * MOST + 2 * 10 ** 39 - 1, 2),
        ):
            self.assertEqual(long_state(book, line, index), state)

    def test_the_greatest_line(self):
        word = (0, 0, 0, 1, 0, 1, 1, 0, 1, 1, 1, 0)
        line = (1, ((word, MOST),) * 12)
        self.assertEqual(long_length(EXAMPLE, line), 144 * MOST)
        for index in (0, 11, 12, 10 ** 41 + 7, 143 * MOST + 5, 144 * MOST - 1):
            self.assertEqual(long_state(EXAMPLE, line, index), word[index % 12])
        with self.assertRaises(NoNode):
            long_state(EXAMPLE, line, 144 * MOST)

    def test_no_pieces(self):
        for book in BOOKS:
            self.assertEqual(long_length(book, (0, ())), 0)
            for index in (0, 1, -1, *NO_NUMBERS):
                with self.assertRaises(NoNode):
                    long_state(book, (0, ()), index)

    def test_answers(self):
        check_answers(self, long_length, [EXAMPLE, LINE], ["book", "line"])
        check_answers(self, long_state, [EXAMPLE, LINE, 1], ["book", "line", "index"])

    def test_errors(self):
        check_needs(self, long_length, [BOOK, LONG_LINE], [])
        check_needs(self, long_state, [BOOK, LONG_LINE, INDEX], [])


class NoLongLines(unittest.TestCase):
    def test_the_bounds_are_lines_still(self):
        for line in (
            (1, ()), (0, (((1,) * 12, MOST),) * 12), (0, (((0,), 1),)), (1, (((0,), 1),) * 12),
        ):
            self.assertEqual(long_length(EXAMPLE, line), sum(len(word) * times for word, times in line[1]))

    def test_any_object_at_any_place(self):
        line = (1, (((0, 1), 3), ((1,), MOST)))
        for path in paths_of(line):
            for thing in [[], None, "0", (2,), -1, True, False, [0], {}, ((), ())]:
                with self.assertRaises(BadLine):
                    long_length(EXAMPLE, replaced(line, path, thing))

    def test_states_of_the_book_only(self):
        line = (2, (((0, 2), 5),))
        self.assertEqual(long_length((3, ()), line), 10)
        for n in (1, 2):
            with self.assertRaises(BadLine):
                long_length((n, ()), line)


class Rests(unittest.TestCase):
    """long_rest_state, long_rest_counts and long_rest_index."""

    def test_short_lines(self):
        chance = random.Random(2)
        for book in settled_sample():
            line = short_line(chance, book[0])
            rest = rest_of(book, written_out(line))[2]
            counts = long_rest_counts(book, line)
            self.assertIsInstance(counts, tuple)
            self.assertEqual(counts, tuple(rest.count(state) for state in range(book[0])))
            for index in sorted({*range(0, len(rest), 17), *range(len(rest) - 3, len(rest))} & {*range(len(rest))}):
                self.assertEqual(long_rest_state(book, line, index), rest[index])
            for state in range(book[0]):
                places = [place for place in range(len(rest)) if rest[place] == state]
                for number in {0, 1, len(places) // 2, len(places) - 1} & {*range(len(places))}:
                    self.assertEqual(long_rest_index(book, line, state, number), places[number])
                for number in (len(places), len(places) + 1, BIG, -1, -2, -len(places), -BIG):
                    self.assertIsNone(long_rest_index(book, line, state, number))

    def test_copies_that_are_read_in_turn(self):
        for book in IN_TURN:
            for outside, state, times in itertools.product(range(book[0]), range(3), range(1, 9)):
                line = (outside, (((state,), times), ((0, state), 3)))
                rest = rest_of(book, written_out(line))[2]
                found = tuple(long_rest_state(book, line, index) for index in range(times + 6))
                self.assertEqual(found, rest)

    def test_all_nodes_of_a_few_lines(self):
        chance = random.Random(3)
        for book in SETTLED:
            line = first_nodes(short_line(chance, book[0]), 60)
            rest = rest_by_last_steps(book, written_out(line))[2]
            self.assertEqual(tuple(long_rest_state(book, line, index) for index in range(len(rest))), rest)
            for state in range(book[0]):
                places = [place for place in range(len(rest)) if rest[place] == state]
                found = [long_rest_index(book, line, state, number) for number in range(len(places) + 1)]
                self.assertEqual(found, [*places, None])

    def test_great_lines(self):
        chance = random.Random(4)
        for book in settled_sample():
            line = great_line(chance, book[0])
            length = long_length(book, line)
            counts = long_rest_counts(book, line)
            self.assertEqual(counts, counts_by_doubling(book, line))
            self.assertEqual(sum(counts), length)
            for _ in range(4 if length else 0):
                index = chance.randrange(length)
                above = counts_by_doubling(book, first_nodes(line, index))
                with_it = counts_by_doubling(book, first_nodes(line, index + 1))
                state, = [state for state in range(book[0]) if with_it[state] > above[state]]
                self.assertEqual(long_rest_state(book, line, index), state)
                self.assertEqual(long_rest_index(book, line, state, above[state]), index)
            for state in range(book[0]):
                self.assertIsNone(long_rest_index(book, line, state, counts[state]))
                self.assertIsNone(long_rest_index(book, line, state, -1))

    def test_the_same_line_in_other_pieces(self):
        chance = random.Random(5)
        for book in settled_sample():
            line = first_nodes(great_line(chance, book[0]), MOST)
            other = written_otherwise(chance, line)
            if len(other[1]) > 12:
                continue
            length = long_length(book, line)
            self.assertEqual(long_length(book, other), length)
            counts = long_rest_counts(book, line)
            self.assertEqual(long_rest_counts(book, other), counts)
            for _ in range(3 if length else 0):
                index = chance.randrange(length)
                state = chance.randrange(book[0])
                number = chance.randrange(max(counts))
                for asked, rest in (
                    (long_state, (index,)), (long_rest_state, (index,)), (long_rest_index, (state, number)),
                    (long_change, (index, state)),
                ):
                    self.assertEqual(asked(book, line, *rest), asked(book, other, *rest))

    def test_the_greatest_line(self):
        word = (0, 0, 1, 0, 1, 1, 0, 0, 1, 0, 1, 1)
        line = (0, ((word, MOST),) * 12)
        # Above the first node that begins in state 1 all stay as they are; below it all come to state 1.
        self.assertEqual(long_rest_counts(EXAMPLE, line), (2, 144 * MOST - 2))
        self.assertEqual(long_rest_index(EXAMPLE, line, 0, 1), 1)
        self.assertIsNone(long_rest_index(EXAMPLE, line, 0, 2))
        self.assertEqual(long_rest_index(EXAMPLE, line, 1, 144 * MOST - 3), 144 * MOST - 1)
        self.assertIsNone(long_rest_index(EXAMPLE, line, 1, 144 * MOST - 2))
        self.assertEqual([long_rest_state(EXAMPLE, line, index) for index in (1, 2, 144 * MOST - 1)], [0, 1, 1])
        for book in (TWO_DOWN, ROUND_AND_ROUND):
            self.assertEqual(long_rest_counts(book, line), counts_by_doubling(book, line))

    def test_no_pieces(self):
        for book in SETTLED:
            self.assertEqual(long_rest_counts(book, (0, ())), (0,) * book[0])
            for number in (-1, 0, 1):
                self.assertIsNone(long_rest_index(book, (0, ()), 0, number))
            with self.assertRaises(NoNode):
                long_rest_state(book, (0, ()), 0)

    def test_answers(self):
        check_answers(self, long_rest_state, [EXAMPLE, LINE, 3], ["book", "line", "index"])
        check_answers(self, long_rest_counts, [EXAMPLE, LINE], ["book", "line"])
        check_answers(self, long_rest_index, [EXAMPLE, LINE, 1, 2], ["book", "line", "state", "number"])

    def test_errors(self):
        check_needs(self, long_rest_state, [BOOK, LONG_LINE, INDEX], NEEDS)
        check_needs(self, long_rest_counts, [BOOK, LONG_LINE], NEEDS)
        check_needs(self, long_rest_index, [BOOK, LONG_LINE, STATE, NUMBER], NEEDS)


class Changes(unittest.TestCase):
    """long_change."""

    def test_short_lines(self):
        chance = random.Random(6)
        met = set()
        for book in settled_sample():
            line = short_line(chance, book[0])
            tree = written_out(line)
            nodes = len(tree[2])
            for _ in range(4 if nodes else 0):
                index, state = chance.randrange(nodes), chance.randrange(book[0])
                changed = changed_nodes(book, tree, index, state)
                found = (len(changed), changed[-1] if changed else None)
                self.assertEqual(long_change(book, line, index, state), found)
                met.add(len(changed))
        self.assertTrue({0, 1, 2} < met, met)

    def test_each_node_of_a_line(self):
        line = (2, (((0, 1, 2), 4), ((1,), 3), ((2, 0, 0, 2), 2)))
        tree = written_out(line)
        for book in [book for book in SETTLED if book[0] == 3]:
            for index, state in itertools.product(range(len(tree[2])), range(3)):
                changed = changed_nodes(book, tree, index, state)
                found = (len(changed), changed[-1] if changed else None)
                self.assertEqual(long_change(book, line, index, state), found)

    def test_great_lines(self):
        chance = random.Random(7)
        for book in settled_sample():
            line = great_line(chance, book[0])
            if long_length(book, line):
                index = chance.choice((0, chance.randrange(long_length(book, line))))
                self.check_great_change(book, line, index, chance.randrange(book[0]))

    def test_changes_that_go_far_down(self):
        chance = random.Random(8)
        far = 0
        for book in settled_sample():
            reach = change_reach(book)
            if reach[0] == "any":
                (line, node, state), first, last = reach[1:]
                outside, _, states = line
                again = states[first:last + 1]
                pieces = [(states[:first], 1), (again, chance.randrange(10 ** 30, MOST)), (states[last + 1:], 1)]
                great = (outside, tuple(piece for piece in pieces if piece[0]))
                found = self.check_great_change(book, great, node, state)
                self.assertEqual(long_change(book, great, node, state)[1], long_length(book, great) - 1)
                far += 10 ** 30 < found < long_length(book, great) - node
        self.assertGreater(far, 1)

    def check_great_change(self, book, line, index, state):
        count, last = long_change(book, line, index, state)
        unlike_up_to = unlike_counts(book, line, index, state)
        self.assertEqual(count, unlike_up_to(long_length(book, line)))
        if count == 0:
            self.assertIsNone(last)
        else:
            self.assertEqual([unlike_up_to(last), unlike_up_to(last + 1)], [count - 1, count])
        return count

    def test_the_greatest_line(self):
        line = (0, (((0,) * 12, MOST),) * 12)
        for index in (0, 5, 10 ** 41 + 3, 144 * MOST - 1):
            self.assertEqual(long_change(EXAMPLE, line, index, 1), (144 * MOST - index, 144 * MOST - 1))
            self.assertEqual(long_change(EXAMPLE, line, index, 0), (0, None))
        # The changes end where a node begins in state 1, whatever comes below.
        line = (0, (*line[1][:11], ((0, 1, 0), MOST)))
        self.assertEqual(long_change(EXAMPLE, line, 7, 1), (132 * MOST + 1 - 7, 132 * MOST))
        self.assertEqual(long_change(EXAMPLE, line, 132 * MOST + 1, 0), (3, 132 * MOST + 3))

    def test_nodes_where_one_piece_ends_and_another_begins(self):
        line = (1, (((0, 1), 5), ((0,), MOST), ((1, 0, 1), 2)))
        for book in (EXAMPLE, TWO_DOWN, ROUND_AND_ROUND):
            for index in (0, 8, 9, 10, 11, 10 ** 39, 9 + MOST, 10 + MOST, 12 + MOST, 15 + MOST):
                for state in range(book[0]):
                    self.check_great_change(book, line, index, state)

    def test_answers(self):
        check_answers(self, long_change, [EXAMPLE, LINE, 0, 1], ["book", "line", "index", "state"])
        self.assertIsInstance(long_change(EXAMPLE, LINE, 0, 1), tuple)

    def test_errors(self):
        check_needs(self, long_change, [BOOK, LONG_LINE, INDEX, STATE], NEEDS)
        with self.assertRaises(NoNode):
            long_change(EXAMPLE, (0, ()), 0, 5)
        with self.assertRaises(BadState):
            long_change((2, TWO_RESTS[1]), LINE, 6, 2)


if __name__ == "__main__":
    unittest.main()
