"""Books, trees and steps as texts: points 44 and 45."""

import random
import unittest

from onerest.errors import BadText
from onerest.texts import read_book, read_run, read_tree, show_book, show_run, show_tree
from tests.brute import random_books
from tests.checks import BOOK, TREE, check_answers, check_order
from tests.samples import BOOKS, EXAMPLE, EXAMPLE_TREE, FOUR_STATES, NO_BOOKS, OTHERS, SETTLED, THREE_STATES
from tests.samples import TWO_STATES, all_trees, line_of

NO_TEXTS = [thing for thing in OTHERS if not isinstance(thing, str)] + [b"states 1", ["states 1"], ("outside 0",)]
# Parts that are no numbers as they are written here.
NO_WRITTEN_NUMBERS = [
    "00", "01", "001", "0000", "1000", "1234", "-1", "+1", "-", "--", "1.", "1.0", "1e1", "0x1", "a", "x1", "1x", "1_0",
    "'1'", "()", "None", "True", "1,", ",1", "1;", "1:", ":1",
]


class Showing(unittest.TestCase):
    def test_books(self):
        self.assertEqual(show_book((1, ())), "states 1")
        self.assertEqual(show_book((4, ())), "states 4")
        self.assertEqual(show_book(EXAMPLE), "states 2\n1 0 1 00")
        self.assertEqual(show_book(TWO_STATES), "states 2\n0 0 1 10\n0 1 0 01\n1 0 1 11\n0 0 1 00")
        self.assertEqual(
            show_book(FOUR_STATES), "states 4\n3 0 3 3210\n0 3 1 1111\n3 0 2 0123\n2 2 0 1230\n1 2 3 2200",
        )

    def test_trees(self):
        self.assertEqual(show_tree(EXAMPLE, (1, (), ())), "outside 1")
        self.assertEqual(show_tree(EXAMPLE, EXAMPLE_TREE), "outside 1\n- 0\n0 1")
        self.assertEqual(
            show_tree((4, ()), (3, (-1, 0, -1, 2, 0), (0, 1, 2, 3, 0))), "outside 3\n- 0\n0 1\n- 2\n2 3\n0 0",
        )
        self.assertEqual(
            show_tree(EXAMPLE, line_of(250)), "\n".join(["outside 0", "- 0", *[f"{node} 0" for node in range(249)]]),
        )

    def test_runs(self):
        self.assertEqual(show_run([]), "")
        self.assertEqual(show_run([(0, 0)]), "0:0")
        self.assertEqual(show_run([(0, 0), (1, 0), (999, 999), (10, 7)]), "0:0 1:0 999:999 10:7")

    def test_answers(self):
        check_answers(self, show_book, [EXAMPLE], ["book"])
        check_answers(self, show_tree, [EXAMPLE, EXAMPLE_TREE], ["book", "tree"])
        check_answers(self, show_run, [[(0, 0), (1, 0)]], ["steps"])

    def test_errors(self):
        check_order(self, show_book, [BOOK])
        check_order(self, show_tree, [BOOK, TREE])


class Texts(unittest.TestCase):
    def check_bad(self, read, text, line):
        with self.assertRaises(BadText, msg=text) as caught:
            read(text)
        self.assertEqual(caught.exception.line, line, text)


class ReadBook(Texts):
    def test_what_is_shown(self):
        for book in [*BOOKS, *SETTLED, *random_books(1, 100, 4, 12), *random_books(2, 100, 3, 12)]:
            self.assertEqual(read_book(show_book(book)), book)

    def test_twelve_rules(self):
        rules = tuple((above, own, (own + 1) % 4, (0, 1, 2, 3)) for above in range(4) for own in range(3))
        self.assertEqual(read_book(show_book((4, rules))), (4, rules))
        lines = show_book((4, rules)).split("\n")
        self.check_bad(read_book, "\n".join([*lines, "3 3 0 0123"]), 13)
        self.check_bad(read_book, "\n".join([*lines, "3 3 0 0123", ""]), 13)

    def test_objects_that_are_no_texts(self):
        for thing in [*NO_TEXTS, EXAMPLE]:
            self.check_bad(read_book, thing, 0)

    def test_first_lines(self):
        for line in (
            "", " ", "states", "states ", "states  1", " states 1", "states 1 ", "states 1 1", "state 1", "States 1",
            "STATES 1", "states0", "states1", "1", "outside 1", "states:1", "states 0", "states 5", "states 12",
            "states 999", "1 states", "states\t1", *[f"states {number}" for number in NO_WRITTEN_NUMBERS],
        ):
            self.check_bad(read_book, line, 0)
            self.check_bad(read_book, line + "\n1 0 1 00", 0)
            self.check_bad(read_book, line + "\n\n", 0)

    def test_lines_of_rules(self):
        for line in (
            "", " ", "1 0 1", "1 0 1 ", "1 0 100", "1 0 1 0 0", "1 0 1 00 ", " 1 0 1 00", "1  0 1 00", "1 0  1 00",
            "1 0 1  00", "1 0 1 00 0", "1 0 1 00 00", "states 2", "1 0 1 0", "1 0 1 000", "1 0 1 0000", "1 0 1 00000",
            "1 0 1 02", "1 0 1 20", "1 0 1 0a", "1 0 1 -0", "1 0 1 +0", "1 0 1 0.", "1 0 1 (0, 0)", "1 0 1 0,0",
            "2 0 1 00", "0 2 1 00", "0 0 2 00", "0 0 0 00", "1 1 1 00", "999 0 1 00", "- 0 1 00", "1:0:1:00",
            *[f"{number} 0 1 00" for number in NO_WRITTEN_NUMBERS],
            *[f"1 {number} 1 00" for number in NO_WRITTEN_NUMBERS],
            *[f"1 0 {number} 00" for number in NO_WRITTEN_NUMBERS],
        ):
            self.check_bad(read_book, f"states 2\n{line}", 1)
            self.check_bad(read_book, f"states 2\n1 0 1 00\n{line}", 2)
            self.check_bad(read_book, f"states 2\n1 0 1 00\n0 0 1 00\n{line}\n0 0 1 01", 3)
            self.check_bad(read_book, f"states 2\n1 0 1 00\n0 0 1 00\n{line}\n\nx", 3)

    def test_other_signs_that_are_digits(self):
        for digit in ("\u00b2", "\u0661", "\uff11"):
            self.check_bad(read_book, f"states {digit}", 0)
            self.check_bad(read_book, f"states 2\n1 0 1 0{digit}", 1)

    def test_a_rule_twice(self):
        self.check_bad(read_book, "states 2\n1 0 1 00\n1 0 1 00", 2)
        self.check_bad(read_book, "states 2\n1 0 1 00\n0 0 1 00\n1 0 1 00\n", 3)

    def test_line_feeds(self):
        self.check_bad(read_book, "\n", 0)
        self.check_bad(read_book, "\nstates 2", 0)
        self.check_bad(read_book, "states 2\n", 1)
        self.check_bad(read_book, "states 2\n1 0 1 00\n", 2)
        self.check_bad(read_book, "states 2\n\n1 0 1 00", 1)

    def test_texts_of_many_lines(self):
        self.check_bad(read_book, "states 4" + "\n" * 9000, 1)
        self.check_bad(read_book, "states 4" + "1" * 9000, 0)
        self.check_bad(read_book, "states 4\n0 0 1 " + "1" * 9000, 1)

    def test_the_kind_of_the_answer(self):
        n, rules = read_book("states 2\n1 0 1 00")
        self.assertEqual([type(part) for part in (n, rules, rules[0], rules[0][3])], [int, tuple, tuple, tuple])
        check_answers(self, read_book, ["states 2\n1 0 1 00"], ["text"])


class ReadTree(Texts):
    def read(self, text):
        return read_tree(EXAMPLE, text)

    def test_what_is_shown(self):
        for nodes in range(4):
            for tree in all_trees(3, nodes):
                self.assertEqual(read_tree(THREE_STATES, show_tree(THREE_STATES, tree)), tree)
        chance = random.Random(1)
        for nodes in (5, 40, 250):
            parents = tuple(chance.randrange(-1, node) for node in range(nodes))
            tree = (2, parents, tuple(chance.randrange(4) for _ in range(nodes)))
            self.assertEqual(read_tree(FOUR_STATES, show_tree(FOUR_STATES, tree)), tree)

    def test_the_most_nodes(self):
        text = show_tree(EXAMPLE, line_of(250))
        self.assertEqual(self.read(text), line_of(250))
        for line in ("- 0", "249 1", "", "x"):
            self.check_bad(self.read, text + "\n" + line, 251)
            self.check_bad(self.read, text + "\n" + line + "\nx", 251)

    def test_objects_that_are_no_texts(self):
        for thing in [*NO_TEXTS, EXAMPLE_TREE]:
            self.check_bad(self.read, thing, 0)

    def test_first_lines(self):
        for line in (
            "", " ", "outside", "outside ", "outside  1", " outside 1", "outside 1 ", "outside 1 1", "out 1",
            "Outside 1", "outside1", "1", "- 1", "states 1", "outside -", "outside 2", "outside 3", "outside 999",
            "1 outside",
            *[f"outside {number}" for number in NO_WRITTEN_NUMBERS],
        ):
            self.check_bad(self.read, line, 0)
            self.check_bad(self.read, line + "\n- 0", 0)
            self.check_bad(self.read, line + "\n", 0)

    def test_lines_of_nodes(self):
        for line in (
            "", " ", "-", "- ", "0", "-0", "- 0 ", " - 0", "-  0", "- 0 0", "0 - 0", "-- 0", "-1 0", "- 2", "- 9",
            "- 999", "0 2", "0:0", "outside 0", "- -", "0 -", "- a", "a 0",
            *[f"- {number}" for number in NO_WRITTEN_NUMBERS],
            *[f"{number} 0" for number in NO_WRITTEN_NUMBERS if number != "-"],
        ):
            self.check_bad(self.read, f"outside 1\n{line}", 1)
            self.check_bad(self.read, f"outside 1\n- 0\n{line}", 2)
            self.check_bad(self.read, f"outside 1\n- 0\n0 1\n{line}\n- 0", 3)
            self.check_bad(self.read, f"outside 1\n- 0\n0 1\n{line}\n\nx", 3)

    def test_parents_that_come_later(self):
        for line in ("0 0", "1 0", "249 0"):
            self.check_bad(self.read, f"outside 1\n{line}", 1)
        for line in ("2 0", "3 0", "999 0"):
            self.check_bad(self.read, f"outside 1\n- 0\n0 1\n{line}", 3)
        self.assertEqual(self.read("outside 1\n- 0\n0 1\n1 0"), (1, (-1, 0, 1), (0, 1, 0)))

    def test_states_of_the_told_book(self):
        text = "outside 2\n- 0\n0 1"
        self.assertEqual(read_tree((3, ()), text), (2, (-1, 0), (0, 1)))
        self.check_bad(self.read, text, 0)
        text = "outside 0\n- 0\n0 2\n- 3"
        self.assertEqual(read_tree((4, ()), text), (0, (-1, 0, -1), (0, 2, 3)))
        for n, line in ((3, 3), (2, 2), (1, 2)):
            self.check_bad(lambda text, n=n: read_tree((n, ()), text), text, line)

    def test_line_feeds(self):
        self.check_bad(self.read, "\n", 0)
        self.check_bad(self.read, "\noutside 1", 0)
        self.check_bad(self.read, "outside 1\n", 1)
        self.check_bad(self.read, "outside 1\n- 0\n", 2)
        self.check_bad(self.read, "outside 1\n\n- 0", 1)
        self.check_bad(self.read, "outside 1" + "\n" * 9000, 1)

    def test_the_kind_of_the_answer(self):
        check_answers(self, read_tree, [EXAMPLE, "outside 1\n- 0\n0 1"], ["book", "text"])
        self.assertEqual([type(part) for part in self.read("outside 1\n- 0")], [int, tuple, tuple])

    def test_errors(self):
        check_order(self, read_tree, [(EXAMPLE, NO_BOOKS, BOOK[2]), ("outside 0", ["", "x", *NO_TEXTS], BadText)])


class ReadRun(Texts):
    def test_what_is_shown(self):
        chance = random.Random(2)
        for many in (0, 1, 2, 10, 999, 1000):
            steps = [(chance.randrange(1000), chance.randrange(1000)) for _ in range(many)]
            self.assertEqual(read_run(show_run(steps)), steps)

    def test_numbers_of_no_node_and_of_no_rule(self):
        self.assertEqual(read_run("0:0"), [(0, 0)])
        self.assertEqual(read_run("999:999 0:12 250:0"), [(999, 999), (0, 12), (250, 0)])
        self.assertEqual(read_run("1:1 1:1 1:1"), [(1, 1)] * 3)

    def test_no_steps(self):
        self.assertEqual(read_run(""), [])

    def test_more_than_a_thousand_steps(self):
        self.assertEqual(read_run(" ".join(["0:0"] * 1000)), [(0, 0)] * 1000)
        self.check_bad(read_run, " ".join(["0:0"] * 1001), 0)
        self.check_bad(read_run, " ".join(["0:0"] * 2000), 0)

    def test_objects_that_are_no_texts(self):
        for thing in [*NO_TEXTS, [(0, 0)]]:
            self.check_bad(read_run, thing, 0)

    def test_texts_that_are_not_of_the_form(self):
        for part in (
            " ", "  ", ":", "0", "0:", ":0", "0:0:0", "0::0", "0 0", "0 :0", "0: 0", "0-0", "(0, 0)", "0,0", "-:0",
            "0:-", "\n", "0\n:0", "\t",
            *[f"{number}:0" for number in NO_WRITTEN_NUMBERS],
            *[f"0:{number}" for number in NO_WRITTEN_NUMBERS],
        ):
            for text in (part, f"0:0 {part}", f"{part} 0:0", f"0:0 {part} 0:0"):
                self.check_bad(read_run, text, 0)

    def test_blanks_and_line_feeds(self):
        for text in (" 0:0", "0:0 ", "0:0  1:0", "\n", "0:0\n", "\n0:0", "0:0\n1:0", "0:0 \n1:0"):
            self.check_bad(read_run, text, 0)

    def test_the_kind_of_the_answer(self):
        check_answers(self, read_run, ["0:0 1:0"], ["text"])
        check_answers(self, read_run, [""], ["text"])
        self.assertEqual([type(step) for step in read_run("0:0 1:0")], [tuple, tuple])


if __name__ == "__main__":
    unittest.main()
