"""The desk: it holds a book and a tree of it, and answers rows with texts."""

from onerest.books import check_state
from onerest.compared import spare_rules
from onerest.ends import ending_of
from onerest.errors import BadCommand, BadState
from onerest.hands import change_reach
from onerest.outcomes import outcome_of
from onerest.readers import reader_of, rest_of
from onerest.rulebooks import RuleBook
from onerest.texts import book_lines, tree_lines, values_in
from onerest.trees import check_node, check_parent, check_room, enabled_steps, with_node, with_outside, with_state

EMPTY_TREE = (0, (), ())
# The kinds of the parts behind each word.
FORMS = {
    "states": ("number",),
    "rule": ("number", "number", "number", "signal"),
    "drop": ("number",),
    "outside": ("number",),
    "node": ("parent", "number"),
    "set": ("number", "number"),
    "book": (),
    "tree": (),
    "ends": (),
    "outcome": (),
    "rest": (),
    "reader": (),
    "reach": (),
    "spare": (),
    "settle": (),
    "steps": (),
}


def make_book(rules, tree, values):
    """A book with so many states and no rules, and the empty tree."""
    return (RuleBook(values[0]), EMPTY_TREE)


def put_rule(rules, tree, values):
    """The book with a rule more."""
    above, own, new, signal = values
    told = rules.told()
    if len(signal) != told[0]:
        raise BadState("the signal has too few or too many states")
    for state in (above, own, new, *signal):
        check_state(told, state)
    return (rules + (above, own, new, signal), tree)


def drop_rule(rules, tree, values):
    """The book without a rule."""
    return (rules - rules[values[0]], tree)


def change_outside(rules, tree, values):
    """The tree with another outside."""
    check_state(rules.told(), values[0])
    return (rules, with_outside(tree, values[0]))


def add_node(rules, tree, values):
    """The tree with a node more."""
    parent, state = values
    check_state(rules.told(), state)
    check_parent(tree, parent)
    check_room(tree)
    return (rules, with_node(tree, parent, state))


def set_state(rules, tree, values):
    """The tree with another state of a node."""
    node, state = values
    check_state(rules.told(), state)
    check_node(tree, node)
    return (rules, with_state(tree, node, state))


def settle_tree(rules, tree, values):
    """The rest in the place of the tree."""
    return (rules, rules(tree))


def show_lines_of_book(book, tree):
    """The lines of the book in one."""
    return " / ".join(book_lines(book))


def show_lines_of_tree(book, tree):
    """The lines of the tree in one."""
    return " / ".join(tree_lines(tree))


def show_ending(book, tree):
    """Whether all runs end, and the greatest rank if they do."""
    ending = ending_of(book)
    if ending[0] == "ring":
        return "no"
    return f"yes {max([max(row) for row in ending[1]])}"


def show_outcome(book, tree):
    """Whether every tree has one rest, and the nodes of a shortest line with two."""
    outcome = outcome_of(book)
    return "one" if outcome[0] == "one" else f"two {len(outcome[1][2])}"


def show_rest(book, tree):
    """The states of the rest."""
    return listed(rest_of(book, tree)[2], "empty")


def show_reader(book, tree):
    """The number of rows of the reader."""
    return str(len(reader_of(book)[1]))


def show_reach(book, tree):
    """How far below a changed node the rest can change."""
    reach = change_reach(book)
    if reach[0] == "any":
        return "any"
    return "none" if reach[1] == -1 else f"at most {reach[1]}"


def show_spare(book, tree):
    """The rules that may be left out, each one alone."""
    return listed(spare_rules(book), "none")


def show_steps(book, tree):
    """The number of steps that can be taken."""
    return str(len(enabled_steps(book, tree)))


def listed(numbers, nothing):
    """The numbers with blanks between them, or the word for nothing."""
    return " ".join([str(number) for number in numbers]) if len(numbers) > 0 else nothing


# What rows do: functions of a RuleBook, a tree and the values in the row, which return both anew.
CHANGES = {
    "states": make_book,
    "rule": put_rule,
    "drop": drop_rule,
    "outside": change_outside,
    "node": add_node,
    "set": set_state,
    "settle": settle_tree,
}
# What rows ask: functions of a book and a tree, which return texts.
ANSWERS = {
    "book": show_lines_of_book,
    "tree": show_lines_of_tree,
    "ends": show_ending,
    "outcome": show_outcome,
    "rest": show_rest,
    "reader": show_reader,
    "reach": show_reach,
    "spare": show_spare,
    "steps": show_steps,
}


def read_row(row):
    """The word of a row, and the values of the parts behind it; BadCommand for any other object."""
    if not isinstance(row, str):
        raise BadCommand("this object is no row")
    word, *parts = row.split(" ")
    if word not in FORMS:
        raise BadCommand("no row begins with this word")
    values = values_in(parts, FORMS[word])
    if len(parts) != len(FORMS[word]) or None in values:
        raise BadCommand("the parts of this row are not of its form")
    return (word, values)


class Desk:
    """Holds a book, at first of one state and without rules, and a tree of it, at first the empty one."""

    def __init__(self):
        self._rules = RuleBook(1)
        self._tree = EMPTY_TREE

    def say(self, row):
        """The answer to a row; behind an error nothing has changed."""
        word, values = read_row(row)
        if word in CHANGES:
            change = CHANGES[word]
            self._rules, self._tree = change(self._rules, self._tree, values)
            return "ok"
        answer = ANSWERS[word]
        return answer(self._rules.told(), self._tree)
