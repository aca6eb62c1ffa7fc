"""The desk: points 46 and 47."""

import inspect
import random
import unittest

from onerest.compared import spare_rules
from onerest.desk import Desk
from onerest.ends import ending_of
from onerest.errors import BadBook, BadCommand, BadRule, BadState, NoEnd, NoNode, NoOneRest, TooMany
from onerest.hands import change_reach
from onerest.outcomes import outcome_of
from onerest.readers import reader_of, rest_of
from onerest.texts import show_book, show_tree
from onerest.trees import enabled_steps
from tests.brute import has_ring_by_the_words, random_books, settled_books
from tests.samples import EXAMPLE, EXAMPLE_TREE, FOUR_DOWN, FOUR_STATES, OTHERS, SETTLED, SIX_ROWS, THREE_STATES
from tests.samples import TWO_DOWN, TWO_RESTS, TWO_STATES, line_of

QUESTIONS = ["book", "tree", "ends", "outcome", "rest", "reader", "reach", "spare", "steps"]


def rows_of_book(book):
    """The rows that make the book on a desk."""
    rules = [f"rule {above} {own} {new} {''.join(map(str, signal))}" for above, own, new, signal in book[1]]
    return [f"states {book[0]}", *rules]


def rows_of_tree(tree):
    outside, parents, states = tree
    nodes = [f"node {'-' if parent == -1 else parent} {state}" for parent, state in zip(parents, states)]
    return [f"outside {outside}", *nodes]


def desk_with(book, tree=(0, (), ())):
    desk = Desk()
    for row in [*rows_of_book(book), *rows_of_tree(tree)]:
        if desk.say(row) != "ok":
            raise AssertionError(row)
    return desk


def lines_in_one(text):
    return text.replace("\n", " / ")


def held(desk):
    return (desk.say("book"), desk.say("tree"))


class Rows(unittest.TestCase):
    """Each row, with its answer."""

    def check_says(self, desk, *pairs):
        for row, answer in pairs:
            self.assertEqual(desk.say(row), answer, row)

    def test_at_first(self):
        self.check_says(
            Desk(),
            ("book", "states 1"), ("tree", "outside 0"), ("ends", "yes 0"), ("outcome", "one"), ("rest", "empty"),
            ("reader", "1"), ("reach", "none"), ("spare", "none"), ("steps", "0"), ("settle", "ok"),
            ("tree", "outside 0"),
        )

    def test_the_example(self):
        self.check_says(
            Desk(),
            ("states 2", "ok"), ("rule 1 0 1 00", "ok"), ("outside 1", "ok"), ("node - 0", "ok"), ("node 0 1", "ok"),
            ("book", "states 2 / 1 0 1 00"), ("tree", "outside 1 / - 0 / 0 1"), ("ends", "yes 1"), ("outcome", "one"),
            ("rest", "1 1"), ("reader", "2"), ("reach", "any"), ("spare", "none"), ("steps", "1"),
            ("settle", "ok"), ("tree", "outside 1 / - 1 / 0 1"), ("steps", "0"), ("settle", "ok"), ("rest", "1 1"),
            ("set 1 0", "ok"), ("tree", "outside 1 / - 1 / 0 0"), ("steps", "1"), ("drop 0", "ok"), ("steps", "0"),
            ("book", "states 2"), ("tree", "outside 1 / - 1 / 0 0"), ("rest", "1 0"),
        )

    def test_states_makes_book_and_tree_new(self):
        desk = desk_with(EXAMPLE, EXAMPLE_TREE)
        for n in (3, 1, 4, 2):
            self.check_says(
                desk, (f"states {n}", "ok"), ("book", f"states {n}"), ("tree", "outside 0"), ("rest", "empty"),
                ("node - 0", "ok"),
            )

    def test_rules_and_drops(self):
        desk = desk_with((4, ()))
        self.check_says(
            desk, ("rule 3 0 1 3210", "ok"), ("rule 0 3 1 0000", "ok"), ("rule 1 1 2 0123", "ok"),
            ("book", "states 4 / 3 0 1 3210 / 0 3 1 0000 / 1 1 2 0123"), ("drop 1", "ok"),
            ("book", "states 4 / 3 0 1 3210 / 1 1 2 0123"), ("rule 0 3 1 0000", "ok"),
            ("book", "states 4 / 3 0 1 3210 / 1 1 2 0123 / 0 3 1 0000"), ("drop 0", "ok"), ("drop 1", "ok"),
            ("drop 0", "ok"), ("book", "states 4"),
        )

    def test_rule_and_drop_leave_the_tree_as_it_is(self):
        desk = desk_with((2, ()), EXAMPLE_TREE)
        for row in ("rule 1 0 1 00", "rule 0 0 1 01", "drop 0", "drop 0"):
            self.check_says(desk, (row, "ok"), ("tree", "outside 1 / - 0 / 0 1"))

    def test_trees(self):
        self.check_says(
            desk_with((3, ())),
            ("node - 2", "ok"), ("node 0 1", "ok"), ("node - 0", "ok"), ("node 1 1", "ok"), ("outside 2", "ok"),
            ("tree", "outside 2 / - 2 / 0 1 / - 0 / 1 1"), ("set 3 0", "ok"), ("set 0 0", "ok"), ("set 0 0", "ok"),
            ("outside 1", "ok"), ("tree", "outside 1 / - 0 / 0 1 / - 0 / 1 0"), ("rest", "0 1 0 0"),
        )

    def test_ends(self):
        self.check_says(desk_with(TWO_STATES), ("ends", "no"))
        self.check_says(desk_with(TWO_RESTS), ("ends", "yes 1"))
        three = (4, ((0, 0, 1, (0, 1, 2, 3)), (0, 1, 2, (0, 1, 2, 3)), (0, 2, 3, (0, 1, 2, 3))))
        self.check_says(desk_with(three), ("ends", "yes 3"), ("drop 1", "ok"), ("ends", "yes 1"))

    def test_outcome(self):
        self.check_says(desk_with(TWO_RESTS), ("outcome", "two 2"))
        self.check_says(desk_with((2, ())), ("outcome", "one"))

    def test_reach(self):
        for book, answer in (
            (TWO_DOWN, "at most 2"), (FOUR_DOWN, "at most 4"), ((2, ()), "at most 0"), (EXAMPLE, "any"),
            ((1, ()), "none"),
        ):
            self.check_says(desk_with(book), ("reach", answer))

    def test_spare(self):
        book = (2, ((1, 0, 1, (0, 0)), (1, 0, 1, (1, 1)), (1, 0, 1, (0, 1))))
        self.assertEqual(spare_rules(book), [0, 1, 2])
        self.check_says(desk_with(book), ("spare", "0 1 2"), ("drop 1", "ok"), ("drop 0", "ok"), ("spare", "none"))

    def test_reader(self):
        self.check_says(desk_with(SIX_ROWS), ("reader", "6"))

    def test_250_nodes(self):
        desk = desk_with(EXAMPLE, line_of(250, 1, 0))
        self.check_says(desk, ("rest", " ".join(["1"] * 250)), ("steps", "1"), ("settle", "ok"), ("steps", "0"))
        self.assertEqual(desk.say("tree"), lines_in_one(show_tree(EXAMPLE, line_of(250, 1, 1))))

    def test_answers_of_many_books(self):
        chance = random.Random(1)
        met = set()
        books = [*SETTLED, TWO_RESTS, *settled_books(95, 100, 3, 6), *settled_books(96, 60, 4, 8)]
        books += [book for book in random_books(97, 60, 3, 6) if not has_ring_by_the_words(book)]
        for book in books:
            n = book[0]
            nodes = chance.randrange(6)
            parents = tuple(chance.randrange(-1, node) for node in range(nodes))
            tree = (chance.randrange(n), parents, tuple(chance.randrange(n) for _ in range(nodes)))
            desk = desk_with(book, tree)
            outcome = outcome_of(book)
            expected = {
                "book": lines_in_one(show_book(book)),
                "tree": lines_in_one(show_tree(book, tree)),
                "ends": "yes " + str(max(max(row) for row in ending_of(book)[1])),
                "outcome": "one" if outcome[0] == "one" else "two " + str(len(outcome[1][2])),
                "steps": str(len(enabled_steps(book, tree))),
            }
            if outcome[0] == "one":
                reach = change_reach(book)
                expected["rest"] = " ".join(map(str, rest_of(book, tree)[2])) or "empty"
                expected["reader"] = str(len(reader_of(book)[1]))
                expected["reach"] = "any" if reach[0] == "any" else "none" if reach[1] < 0 else f"at most {reach[1]}"
                expected["spare"] = " ".join(map(str, spare_rules(book))) or "none"
            self.check_says(desk, *expected.items())
            met |= {expected.get(word) for word in ("outcome", "rest", "reach", "spare")}
            self.assertEqual(held(desk), (expected["book"], expected["tree"]))
            if outcome[0] == "one":
                self.check_says(desk, ("settle", "ok"), ("tree", lines_in_one(show_tree(book, rest_of(book, tree)))))
        self.assertTrue({"two 1", "two 2", "one", "empty", "any", "at most 0", "at most 1", "none"} <= met, met)

    def test_two_desks(self):
        one, other = Desk(), Desk()
        one.say("states 3")
        self.assertEqual((one.say("book"), other.say("book")), ("states 3", "states 1"))

    def test_the_parameters(self):
        self.assertEqual(list(inspect.signature(Desk).parameters), [])
        self.assertEqual(list(inspect.signature(Desk().say).parameters), ["row"])
        self.assertEqual(Desk().say(row="steps"), "0")


class Errors(unittest.TestCase):
    """Each error, with the desk as it was."""

    def check_raises(self, desk, error, *rows):
        before = held(desk)
        for row in rows:
            with self.assertRaises(error, msg=row):
                desk.say(row)
            self.assertEqual(held(desk), before, row)

    def test_any_object(self):
        for desk in (Desk(), desk_with(EXAMPLE, EXAMPLE_TREE)):
            self.check_raises(desk, BadCommand, *OTHERS, b"book", ["book"], ("book",), desk, EXAMPLE)

    def test_rows_of_no_form(self):
        desk = desk_with(EXAMPLE, EXAMPLE_TREE)
        self.check_raises(
            desk, BadCommand,
            "", " ", "  ", "books", "Book", "BOOK", "help", "undo", "state 2", "0", "1 0 1 00", "- 0", "/", "-",
            *[f" {row}" for row in QUESTIONS], *[f"{row} " for row in QUESTIONS], *[f"{row} 0" for row in QUESTIONS],
            *[f"{row}\n" for row in QUESTIONS], *[f"{row} {row}" for row in QUESTIONS],
            "settle ", " settle", "settle 0", "states", "rule", "drop", "outside", "node", "set",
            "states ", "drop ", "outside ", "states  2", "states 2 ", " states 2", "states 2 2", "drop 0 0", "drop  0",
            "outside 1 1", "outside 1 ", "node 0", "node -", "node - ", "node  0", "node - 0 0", "node -  0", "set 0",
            "set 0 ", "set 0 0 0", "set  0 0", "rule 1 0 1", "rule 1 0 1 ", "rule 1 0 1 0 0", "rule 1 0 1 00 ",
            "rule 0 0  00", "rule 1 0 1 00 00", "rule  0 0 1 00",
        )

    def test_numbers_that_are_not_of_the_form(self):
        desk = desk_with(EXAMPLE, EXAMPLE_TREE)
        for number in (
            "-", "-1", "-0", "+1", "00", "01", "001", "0000", "1000", "12345", "1.0", "1.", "a", "1a", "x", "1,", "()",
            "None", "True", "1\n", "\n1", "1_0", "0x1",
        ):
            rows = [
                f"states {number}", f"drop {number}", f"outside {number}", f"node 0 {number}", f"node - {number}",
                f"set {number} 0", f"set 0 {number}", f"rule {number} 0 1 00", f"rule 0 {number} 1 00",
                f"rule 0 0 {number} 00",
            ]
            self.check_raises(desk, BadCommand, *rows, *([f"node {number} 0"] if number != "-" else []))

    def test_signals_of_one_to_four_digits(self):
        for n in (1, 2, 3, 4):
            desk = desk_with((n, ()))
            for signal in ("", "00000", "0123456789", "-", "0a", "a", "-1", "+0", "0.", "(0)", "0,0", "0\n"):
                self.check_raises(desk, BadCommand, f"rule 0 0 1 {signal}", f"rule 9 9 9 {signal}")
            for digits in (1, 2, 3, 4):
                if digits != n:
                    self.check_raises(desk, BadState, f"rule 0 0 0 {'0' * digits}")
                    if n > 1:
                        self.check_raises(desk, BadState, f"rule 0 0 1 {'0' * digits}")
            for digit in range(n, 10):
                for place in range(n):
                    self.check_raises(desk, BadState, f"rule 0 0 0 {'0' * place}{digit}{'0' * (n - place - 1)}")

    def test_numbers_of_states(self):
        self.check_raises(desk_with(EXAMPLE, EXAMPLE_TREE), BadBook, "states 0", "states 5", "states 10", "states 999")

    def test_states(self):
        desk = desk_with(EXAMPLE, EXAMPLE_TREE)
        for state in (2, 3, 4, 10, 999):
            self.check_raises(
                desk, BadState, f"outside {state}", f"node - {state}", f"node 0 {state}", f"set 0 {state}",
                f"rule {state} 0 1 00", f"rule 0 {state} 1 00", f"rule 0 0 {state} 00",
            )

    def test_rules_that_cannot_be_put_in(self):
        desk = desk_with(EXAMPLE, EXAMPLE_TREE)
        self.check_raises(desk, BadRule, "rule 1 0 1 00", "rule 0 0 0 00", "rule 1 1 1 01")
        self.check_raises(Desk(), BadRule, "rule 0 0 0 0")
        full = desk_with((4, tuple((above, own, 3, (0, 1, 2, 3)) for above in range(4) for own in range(3))))
        self.check_raises(full, BadRule, "rule 0 0 3 0123", "rule 0 0 1 0123", "rule 0 3 0 0000")
        self.check_raises(full, BadState, "rule 0 4 0 0000", "rule 0 0 1 000")
        self.assertEqual(full.say("drop 11"), "ok")
        self.assertEqual(full.say("rule 0 3 0 0000"), "ok")

    def test_numbers_of_rules(self):
        self.check_raises(Desk(), BadRule, "drop 0", "drop 1", "drop 999")
        self.check_raises(desk_with(THREE_STATES), BadRule, "drop 5", "drop 12", "drop 999")

    def test_nodes(self):
        desk = desk_with(EXAMPLE, EXAMPLE_TREE)
        self.check_raises(desk, NoNode, "node 2 0", "node 3 1", "node 999 0", "set 2 0", "set 999 1")
        self.check_raises(Desk(), NoNode, "node 0 0", "set 0 0")
        # A state that is none comes first.
        self.check_raises(desk, BadState, "node 2 2", "node 999 9", "set 2 2", "set 999 9")

    def test_more_nodes_than_there_may_be(self):
        desk = desk_with(EXAMPLE, line_of(250))
        self.check_raises(desk, TooMany, "node - 0", "node 0 1", "node 249 0")
        self.check_raises(desk, NoNode, "node 250 0", "set 250 0", "node 999 1")
        self.check_raises(desk, BadState, "node - 2", "node 250 2")
        self.assertEqual(desk.say("set 249 1"), "ok")

    def test_no_end(self):
        for tree in ((0, (), ()), EXAMPLE_TREE):
            desk = desk_with(TWO_STATES, tree)
            self.check_raises(desk, NoEnd, "rest", "reader", "reach", "spare", "settle", "outcome")
            self.assertEqual(desk.say("ends"), "no")
        self.assertEqual(desk_with(FOUR_STATES).say("steps"), "0")

    def test_no_one_rest(self):
        for tree in ((0, (), ()), EXAMPLE_TREE):
            desk = desk_with(TWO_RESTS, tree)
            self.check_raises(desk, NoOneRest, "rest", "reader", "reach", "spare", "settle")
            self.assertEqual(desk.say("outcome"), "two 2")

    def test_after_errors_the_desk_goes_on(self):
        desk = desk_with(EXAMPLE, EXAMPLE_TREE)
        for row in ("states 9", "rule 9 9 9 99", "drop 1", "outside 2", "node 5 0", "set 5 0", "x", None):
            with self.assertRaises(ValueError):
                desk.say(row)
        self.assertEqual([desk.say(row) for row in ("rest", "steps", "settle", "steps")], ["1 1", "1", "ok", "0"])


if __name__ == "__main__":
    unittest.main()
