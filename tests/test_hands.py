"""Changes by hand: points 31 to 34."""

import itertools
import random
import unittest

from onerest.errors import BadState, NoEnd, NoNode, NoOneRest
from onerest.hands import change_reach, changed_nodes, reach_ranks, touched_states
from onerest.readers import reader_of
from tests.brute import all_lines, rest_by_last_steps, settled_books, settled_books_of_two_states, states_read
from tests.checks import BOOK, NODE, STATE, TREE, check_answers, check_needs, check_order
from tests.samples import BIG, BOOKS, EIGHT_ROWS, EXAMPLE, EXAMPLE_TREE, FOUR_DOWN, NO_NUMBERS, NO_NUMBERS_BELOW_TWO
from tests.samples import ON_AND_ON, ROUND_AND_ROUND, SETTLED, SIX_ROWS, THREE_STATES, TWO_DOWN, TWO_STATES
from tests.samples import line_of, line_of_states


def settled_sample():
    yield from SETTLED
    yield from settled_books_of_two_states()[::40]
    yield from settled_books(51, 300, 3, 5)
    yield from settled_books(52, 200, 4, 6)


def changed_by_the_words(book, tree, node, state):
    """Point 31 once more: the nodes whose states differ in the rests of the two trees."""
    outside, parents, states = tree
    other = (outside, parents, (*states[:node], state, *states[node + 1:]))
    rests = [rest_by_last_steps(book, one)[2] for one in (tree, other)]
    return [k for k in range(len(states)) if rests[0][k] != rests[1][k]]


def reach_in_lines(book, most):
    """The greatest number of steps downward that a change goes in lines of so many nodes, -1 for none."""
    reach = -1
    for line in all_lines(book[0], most):
        for state in range(book[0]):
            for node in range(most):
                reach = max([reach] + [k - node for k in changed_by_the_words(book, line, node, state)])
    return reach


def unlike_places(reader, row, other, most):
    """All indices at which lines of so many nodes with equal initial states get unlike states by two rows."""
    n = len(reader[0])
    found = set()
    for line in all_lines(n, most):
        if line[0] == 0:
            one, two = [states_read(((start,) * n, reader[1]), line) for start in (row, other)]
            found |= {place for place in range(most) if one[place] != two[place]}
    return found


class ChangedNodes(unittest.TestCase):
    def test_the_example(self):
        self.assertEqual(changed_nodes(EXAMPLE, EXAMPLE_TREE, 0, 1), [])
        self.assertEqual(changed_nodes(EXAMPLE, (0, (-1, 0, 0, 1, -1), (0, 0, 1, 0, 0)), 0, 1), [0, 1, 3])
        self.assertEqual(changed_nodes(EXAMPLE, (0, (-1, 0, 0, 1, -1), (0, 0, 1, 0, 0)), 1, 1), [1, 3])
        self.assertEqual(changed_nodes(EXAMPLE, (0, (-1, 0, 0, 1, -1), (0, 0, 1, 0, 0)), 4, 1), [4])

    def test_its_own_state(self):
        chance = random.Random(1)
        for book in SETTLED:
            line = line_of_states(0, [chance.randrange(book[0]) for _ in range(9)])
            for node in range(9):
                self.assertEqual(changed_nodes(book, line, node, line[2][node]), [])

    def test_random_trees(self):
        chance = random.Random(2)
        found_several = 0
        for book in settled_sample():
            n = book[0]
            nodes = chance.randrange(1, 12)
            parents = tuple(chance.randrange(max(-1, node - 3), node) for node in range(nodes))
            tree = (chance.randrange(n), parents, tuple(chance.randrange(n) for _ in range(nodes)))
            for node, state in itertools.product(range(nodes), range(n)):
                found = changed_nodes(book, tree, node, state)
                self.assertEqual(found, changed_by_the_words(book, tree, node, state))
                found_several += len(found) > 1
        self.assertGreater(found_several, 20)

    def test_250_nodes(self):
        self.assertEqual(changed_nodes(EXAMPLE, line_of(250), 0, 1), list(range(250)))
        self.assertEqual(changed_nodes(EXAMPLE, line_of(250), 249, 1), [249])

    def test_answers(self):
        arguments = [EXAMPLE, (0, (-1, 0), (0, 0)), 0, 1]
        check_answers(self, changed_nodes, arguments, ["book", "tree", "node", "state"])

    def test_errors(self):
        check_needs(self, changed_nodes, [BOOK, TREE, NODE, STATE], [NoEnd, NoOneRest])
        for node, state in itertools.product((-1, 0, 1, None), (0, 9)):
            with self.assertRaises(NoNode):
                changed_nodes(EXAMPLE, (0, (), ()), node, state)


class ChangeReach(unittest.TestCase):
    def test_no_change_at_all(self):
        # All nodes come to state 1, whatever they begin in.
        book = (2, ((0, 0, 1, (0, 0)), (1, 0, 1, (0, 0))))
        self.assertEqual(change_reach(book), ("bound", -1, None))
        self.assertEqual(change_reach((1, ())), ("bound", -1, None))

    def test_bounds(self):
        for book, reach in (((2, ()), 0), ((3, ()), 0), ((4, ()), 0), (TWO_DOWN, 2), (FOUR_DOWN, 4)):
            found = change_reach(book)
            self.assertEqual(found[:2], ("bound", reach))
            self.check_bound(book, found)

    def test_no_bound(self):
        for book in (EXAMPLE, ON_AND_ON, ROUND_AND_ROUND, SIX_ROWS, EIGHT_ROWS):
            found = change_reach(book)
            self.assertEqual(found[0], "any")
            self.check_any(book, found)

    def test_all_forms_of_many_books(self):
        met = set()
        for book in settled_sample():
            found = change_reach(book)
            with self.subTest(book=book):
                if found[0] == "any":
                    self.check_any(book, found)
                    met.add("any")
                else:
                    self.check_bound(book, found)
                    met.add(found[1])
        self.assertTrue({"any", -1, 0, 1, 2} <= met, met)

    def check_bound(self, book, found):
        word, reach, shown = found
        self.assertEqual(word, "bound")
        nodes = 4 if book[0] < 4 else 3
        self.assertEqual(min(reach, nodes - 1), reach_in_lines(book, nodes))
        if reach == -1:
            self.assertIsNone(shown)
            return
        line, node, state = shown
        self.check_line(line)
        self.assertEqual(len(line[2]) - 1, node + reach)
        self.assertIn(node + reach, changed_by_the_words(book, line, node, state))
        self.assertIn(node + reach, changed_nodes(book, line, node, state))

    def check_any(self, book, found):
        self.assertEqual([type(part) for part in found], [str, tuple, int, int])
        (line, node, state), first, last = found[1:]
        self.check_line(line)
        outside, _, states = line
        self.assertTrue(0 <= node < first <= last < len(states))
        for copies in (1, 2, 3, 7):
            longer = states[:first] + states[first:last + 1] * copies + states[last + 1:]
            changed = changed_by_the_words(book, line_of_states(outside, longer), node, state)
            self.assertIn(len(longer) - 1, changed)
        many = (250 - len(states)) // (last + 1 - first) + 1
        longer = line_of_states(outside, states[:first] + states[first:last + 1] * many + states[last + 1:])
        self.assertIn(len(longer[2]) - 1, changed_nodes(book, longer, node, state))

    def check_line(self, line):
        self.assertEqual(line, line_of_states(line[0], line[2]))
        self.assertLessEqual(len(line[2]), 250)

    def test_answers(self):
        for book in (EXAMPLE, TWO_DOWN, (1, ())):
            check_answers(self, change_reach, [book], ["book"])

    def test_errors(self):
        check_needs(self, change_reach, [BOOK], [NoEnd, NoOneRest])


class ReachRanks(unittest.TestCase):
    def test_one_row_and_two(self):
        for n in (1, 2, 3, 4):
            self.assertEqual(reach_ranks((n, ())), [])
        self.assertEqual(reach_ranks(EXAMPLE), [(0, 1, None)])

    def test_two_down(self):
        self.assertEqual(reader_of(TWO_DOWN)[1], (
            ((0, 0), (1, 0), (2, 1)),
            ((2, 2), (1, 0), (2, 1)),
            ((1, 0), (1, 0), (2, 1)),
        ))
        self.assertEqual(reach_ranks(TWO_DOWN), [(0, 1, 1), (0, 2, 0), (1, 2, 1)])

    def test_all_pairs_of_rows(self):
        met = set()
        for book in settled_sample():
            reader = reader_of(book)
            pairs = list(itertools.combinations(range(len(reader[1])), 2))
            found = reach_ranks(book)
            self.assertEqual([(row, other) for row, other, _ in found], pairs)
            most = 5 if book[0] < 4 else 4
            for row, other, rank in found:
                met.add(rank)
                places = unlike_places(reader, row, other, most)
                if rank is None or rank >= most:
                    self.check_some_line_below(reader, row, other, rank)
                else:
                    self.assertEqual(max(places), rank)
        self.assertTrue({None, 0, 1} <= met, met)

    def check_some_line_below(self, reader, row, other, rank):
        """At twenty nodes, or at the node with the index rank, there are still pairs of unlike states."""
        pairs = {(row, other)}
        for _ in range(20 if rank is None else rank):
            pairs = {
                (one[1], two[1]) for low, high in pairs for one, two in zip(reader[1][low], reader[1][high])
            }
        self.assertTrue(any(
            one[0] != two[0] for low, high in pairs for one, two in zip(reader[1][low], reader[1][high])
        ))

    def test_answers(self):
        check_answers(self, reach_ranks, [TWO_DOWN], ["book"])

    def test_errors(self):
        check_needs(self, reach_ranks, [BOOK], [NoEnd, NoOneRest])


class TouchedStates(unittest.TestCase):
    def test_nodes_and_children(self):
        # By rule 0 the node leaves 0, and children leave 0 and 1; by rule 1 no child goes anywhere.
        book = (3, ((2, 0, 1, (1, 2, 2)), (0, 2, 1, (0, 1, 2)), (1, 1, 0, (2, 2, 0))))
        self.assertEqual(touched_states(book, [0]), [(0, 0, 1), (2, 0, 2)])
        self.assertEqual(touched_states(book, [1]), [(0, 1, 2), (2, 1, 0), (2, 1, 2)])
        self.assertEqual(touched_states(book, [2]), [(1, 2, 1), (2, 2, 0)])
        everything = [(0, 0, 1), (0, 1, 2), (1, 2, 1), (2, 0, 2), (2, 1, 0), (2, 1, 2), (2, 2, 0)]
        for held in ([0, 1, 2], [2, 1, 0], [2, 0, 0, 1, 2, 1], [0, 1, 2] * 333):
            self.assertEqual(touched_states(book, held), everything)

    def test_nothing_held(self):
        for book in BOOKS:
            self.assertEqual(touched_states(book, []), [])

    def test_the_example(self):
        self.assertEqual(touched_states(EXAMPLE, [0]), [(0, 0, 1)])
        self.assertEqual(touched_states(EXAMPLE, [1]), [(0, 1, 0)])

    def test_books_with_a_ring_and_with_two_rests(self):
        self.assertEqual(touched_states(TWO_STATES, [0]), [(0, 0, 1), (2, 0, 1), (3, 0, 1)])
        self.assertEqual(touched_states(TWO_STATES, [1]), [(0, 1, 0), (1, 1, 0), (3, 1, 0)])

    def test_by_firing_the_rules(self):
        for book in [*BOOKS, *SETTLED]:
            n = book[0]
            for held in ([state for state in range(n) if chosen >> state & 1] for chosen in range(2 ** n)):
                expected = set()
                for number, (above, own, new, signal) in enumerate(book[1]):
                    expected |= {(number, own, new) for state in held if state == own}
                    expected |= {(number, state, signal[state]) for state in held if signal[state] != state}
                self.assertEqual(touched_states(book, held), sorted(expected))

    def test_any_object_as_a_state(self):
        for thing in NO_NUMBERS_BELOW_TWO:
            for held in ([thing], [0, thing], [thing, 1], [0, 1, 1, thing, 0]):
                with self.assertRaises(BadState):
                    touched_states(EXAMPLE, held)
        for thing in (3, -1, BIG, *NO_NUMBERS):
            with self.assertRaises(BadState):
                touched_states(THREE_STATES, [2, thing])
            with self.assertRaises(BadState):
                touched_states((1, ()), [0, thing])

    def test_answers(self):
        check_answers(self, touched_states, [THREE_STATES, [0, 2, 0]], ["book", "held"])

    def test_errors(self):
        check_order(self, touched_states, [BOOK, ([0], [[None], [2]], BadState)])


if __name__ == "__main__":
    unittest.main()
