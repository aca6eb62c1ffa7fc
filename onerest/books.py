"""Books: tuples (n, rules) of a number of states and of rules (above, own, new, signal)."""

from onerest.errors import BadBook, BadState
from onerest.kinds import are_numbers_below, is_integer_from, is_number_below, is_tuple_of

MOST_STATES = 4
MOST_RULES = 12


def is_book(thing):
    """Whether the object is a book."""
    if not is_tuple_of(thing, 2):
        return False
    n, rules = thing
    if not is_integer_from(n, 1, MOST_STATES):
        return False
    if not isinstance(rules, tuple) or len(rules) > MOST_RULES:
        return False
    if not all([is_rule(n, rule) for rule in rules]):
        return False
    return len(set(rules)) == len(rules)


def is_rule(n, thing):
    """Whether the object is a rule for books with n states."""
    if not is_tuple_of(thing, 4):
        return False
    above, own, new, signal = thing
    if not are_numbers_below((above, own, new), n) or own == new:
        return False
    return is_tuple_of(signal, n) and are_numbers_below(signal, n)


def check_book(thing):
    """Raise BadBook for an object that is no book."""
    if not is_book(thing):
        raise BadBook("this object is no book")


def check_state(book, thing):
    """Raise BadState for an object that is no state of the book."""
    if not is_number_below(thing, book[0]):
        raise BadState("this object is no state of the book")


def rules_for(book, above, own):
    """The numbers of the rules that can fire on a node in state own under a parent in state above."""
    check_book(book)
    check_state(book, above)
    check_state(book, own)
    return fitting_rules(book, above, own)


def fitting_rules(book, above, own):
    """As rules_for, of a book and states that are known to be such."""
    return [number for number, rule in enumerate(book[1]) if rule[0] == above and rule[1] == own]
