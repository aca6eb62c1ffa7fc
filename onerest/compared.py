"""Settled books compared, and rules that may or must be left out of a book."""

from onerest.books import check_book
from onerest.errors import TooMany, UnlikeBooks
from onerest.outcomes import check_settled, is_settled
from onerest.readers import reader_by_first_ways
from onerest.rows import first_unlike, readers_in_turn
from onerest.trees import line_of

MOST_RULES_TO_CHOOSE = 7


def first_difference(book, other):
    """None if every tree has equal rests by both books, else the first of the shortest lines that has not."""
    reader, other_reader = two_readers(book, other)
    return line_or_none(first_unlike(reader, other_reader))


def first_clash(book, other):
    """None if the rests by the two books in turn never depend on which comes first, else a line as above."""
    reader, other_reader = two_readers(book, other)
    there = readers_in_turn(reader, other_reader)
    back = readers_in_turn(other_reader, reader)
    return line_or_none(first_unlike(there, back))


def two_readers(book, other):
    """The readers of two settled books with the same n, behind all errors about them."""
    check_book(book)
    check_book(other)
    if book[0] != other[0]:
        raise UnlikeBooks("the books have unlike numbers of states")
    check_settled(book)
    check_settled(other)
    return (reader_by_first_ways(book), reader_by_first_ways(other))


def line_or_none(told):
    """The line of a tuple (outside, states), None of None."""
    if told is None:
        return None
    outside, states = told
    return line_of(outside, states)


def spare_rules(book):
    """The numbers of the rules of a settled book that may be left out, each one alone."""
    check_book(book)
    check_settled(book)
    reader = reader_by_first_ways(book)
    return [number for number in range(len(book[1])) if does_as_well(without(book, [number]), reader)]


def without(book, numbers):
    """The book without the rules with these numbers."""
    return (book[0], tuple([rule for number, rule in enumerate(book[1]) if number not in numbers]))


def does_as_well(book, reader):
    """Whether a book of some rules of a settled one with this reader is settled, with equal rests."""
    # Runs of the smaller book are runs of the settled one. If the readers are equal, a tree
    # at rest by the smaller book is its own rest by both, so that no run of the smaller book
    # can end elsewhere than the runs of the settled one do: nothing else need be looked at.
    return reader_by_first_ways(book) == reader


def fewest_rules(book):
    """The first of the shortest lists of rules that make a settled book with the same rests."""
    check_few_rules(book)
    check_settled(book)
    reader = reader_by_first_ways(book)
    # All the rules are among the choices, so that one of them is returned.
    for numbers in choices_by_length(len(book[1])):
        chosen = (book[0], tuple([book[1][number] for number in numbers]))
        if does_as_well(chosen, reader):
            return numbers


def fewest_removals(book):
    """The first of the shortest lists of rules that must be left out so that the book is settled."""
    check_few_rules(book)
    # A book without rules is settled, so that one of the choices is returned.
    for numbers in choices_by_length(len(book[1])):
        if is_settled(without(book, numbers)):
            return numbers


def check_few_rules(book):
    """Raise BadBook, then TooMany for a book with too many rules to try all choices of them."""
    check_book(book)
    if len(book[1]) > MOST_RULES_TO_CHOOSE:
        raise TooMany("the book has more than seven rules")


def choices_by_length(many):
    """All ascending lists of numbers below many: the shorter ones first, and else as lists are ordered."""
    choices = [[]]
    for number in range(many):
        choices = choices + [choice + [number] for choice in choices]
    return sorted(choices, key=lambda choice: (len(choice), choice))
