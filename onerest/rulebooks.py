"""Rule books as objects: one is made of another by a rule more or less."""

from onerest.books import check_book, is_book, is_rule
from onerest.errors import BadRule
from onerest.kinds import is_number_below
from onerest.readers import rest_of


class RuleBook:
    """A book that never changes; `+` and `-` make others of it."""

    def __init__(self, n):
        check_book((n, ()))
        self._book = (n, ())

    def __add__(self, rule):
        n, rules = self._book
        longer = (n, (*rules, rule))
        if not is_book(longer):
            raise BadRule("this object is no rule that can be put into the book")
        made = RuleBook(n)
        made._book = longer
        return made

    def __sub__(self, rule):
        if rule not in self:
            raise BadRule("this object is no rule of the book")
        n, rules = self._book
        made = RuleBook(n)
        made._book = (n, tuple([other for other in rules if other != rule]))
        return made

    def __contains__(self, thing):
        n, rules = self._book
        return is_rule(n, thing) and thing in rules

    def __len__(self):
        return len(self._book[1])

    def __getitem__(self, number):
        if not is_number_below(number, len(self)):
            raise BadRule("this object is not the number of a rule")
        return self._book[1][number]

    def __iter__(self):
        raise TypeError("a rule book is not iterated over")

    def __eq__(self, other):
        return isinstance(other, RuleBook) and self._book == other._book

    def __call__(self, tree):
        """The rest of the tree."""
        return rest_of(self._book, tree)

    def is_within(self, other):
        """Whether n is equal and every rule is in the other RuleBook."""
        n, rules = self._book
        return n == other.told()[0] and all([rule in other for rule in rules])

    def told(self):
        """The book as a tuple (n, rules)."""
        return self._book
