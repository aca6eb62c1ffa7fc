"""Books, trees and steps as texts.

A part of a line that is not of its form is read as None, and what has None in it is no
book, no tree and no step.
"""

from onerest.books import MOST_STATES, check_book, is_book
from onerest.errors import BadText
from onerest.trees import NO_PARENT, check_tree, is_tree, with_node

MOST_DIGITS = 3
MOST_STEPS = 1000
# The kinds of the parts of a line of a rule, a node and a step.
RULE = ("number", "number", "number", "signal")
NODE = ("parent", "number")
STEP = ("number", "number")


def show_book(book):
    """The text of a book: `states N`, then a line for each rule."""
    check_book(book)
    return "\n".join(book_lines(book))


def book_lines(book):
    """The lines of the text of a book."""
    n, rules = book
    return [f"states {n}"] + [f"{above} {own} {new} {digits(signal)}" for above, own, new, signal in rules]


def digits(states):
    """The states with nothing between them."""
    return "".join([str(state) for state in states])


def show_tree(book, tree):
    """The text of a tree: `outside N`, then a line for each node."""
    check_tree(book, tree)
    return "\n".join(tree_lines(tree))


def tree_lines(tree):
    """The lines of the text of a tree."""
    outside, parents, states = tree
    return [f"outside {outside}"] + [f"{shown_parent(parent)} {state}" for parent, state in zip(parents, states)]


def shown_parent(parent):
    """A parent's number, or `-` for none."""
    return "-" if parent == NO_PARENT else str(parent)


def show_run(steps):
    """The text of a list of steps."""
    return " ".join([f"{node}:{rule}" for node, rule in steps])


def read_book(text):
    """The book that a text writes."""
    first, *rest = lines_of(text)
    n = number_behind("states", first)
    book = (n, ())
    if not is_book(book):
        raise BadText(0)
    for at, line in enumerate(rest, start=1):
        book = (n, (*book[1], tuple(values_in(line.split(" "), RULE))))
        if not is_book(book):
            raise BadText(at)
    return book


def read_tree(book, text):
    """The tree of the book that a text writes."""
    check_book(book)
    first, *rest = lines_of(text)
    tree = (number_behind("outside", first), (), ())
    if not is_tree(book, tree):
        raise BadText(0)
    for at, line in enumerate(rest, start=1):
        parent, state = values_in(line.split(" "), NODE)
        tree = with_node(tree, parent, state)
        if not is_tree(book, tree):
            raise BadText(at)
    return tree


def read_run(text):
    """The list of steps that a text writes."""
    if not isinstance(text, str):
        raise BadText(0)
    if text == "":
        return []
    steps = [tuple(values_in(part.split(":"), STEP)) for part in text.split(" ")]
    if len(steps) > MOST_STEPS or any([None in step for step in steps]):
        raise BadText(0)
    return steps


def lines_of(text):
    """The lines of a text; BadText for an object that is none."""
    if not isinstance(text, str):
        raise BadText(0)
    return text.split("\n")


def number_behind(word, line):
    """The number in a line of this word and a number, None for another line."""
    first, *rest = line.split(" ")
    return values_in(rest, ("number",))[0] if first == word else None


def values_in(parts, kinds):
    """What parts of these kinds write, one None for each of the kinds if the parts are not so many."""
    if len(parts) != len(kinds):
        return [None for _ in kinds]
    return [value_of(part, kind) for part, kind in zip(parts, kinds)]


def value_of(part, kind):
    """What a part of this kind writes: a number, -1 for the parent `-`, or the tuple of the digits of a signal."""
    if kind == "parent" and part == "-":
        return NO_PARENT
    if not part.isascii() or not part.isdigit():
        return None
    if kind == "signal":
        return tuple([int(digit) for digit in part]) if len(part) <= MOST_STATES else None
    return int(part) if len(part) <= MOST_DIGITS and str(int(part)) == part else None
