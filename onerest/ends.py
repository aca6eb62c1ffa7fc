"""Whether all runs of a book end, with certificates, and how often rules can fire on a node."""

from onerest.books import check_book, fitting_rules
from onerest.errors import NoEnd
from onerest.kinds import is_integer, is_number_below, is_tuple_of, is_word
from onerest.trees import NO_PARENT, check_tree


def ending_of(book):
    """The certificate ("ranks", table) of a book whose runs end, else ("ring", above, numbers)."""
    check_book(book)
    for above in range(book[0]):
        ranks = ranks_under(book, above)
        if has_ring_in(ranks):
            return ("ring", above, ring_under(book, above, ranks))
    return ("ranks", tuple([tuple(ranks_under(book, above)) for above in range(book[0])]))


def ranks_under(book, above):
    """For each own state how many rules can fire one after the other; n stands for n or more."""
    n, rules = book
    ranks = [0] * n
    for _ in range(n):
        ranks = [
            max([ranks[rule[2]] + 1 for rule in rules if rule[0] == above and rule[1] == own], default=0)
            for own in range(n)
        ]
    return ranks


def has_ring_in(ranks):
    """Whether the ranks under one parent state show a ring: n rules in a row meet a state twice."""
    return len(ranks) in ranks


def ring_under(book, above, ranks):
    """The numbers of the rules of a ring under a parent state whose ranks show one."""
    # A state of rank n has a rule to another one of rank n, so that the walk ends in a ring.
    n = book[0]
    own = ranks.index(n)
    met = []
    numbers = []
    while own not in met:
        met.append(own)
        number = [k for k in fitting_rules(book, above, own) if ranks[book[1][k][2]] == n][0]
        numbers.append(number)
        own = book[1][number][2]
    return numbers[met.index(own):]


def has_ring(book):
    """Whether some run of some tree of the book has no end."""
    return any([has_ring_in(ranks_under(book, above)) for above in range(book[0])])


def check_ends(book):
    """Raise NoEnd for a book with a ring."""
    if has_ring(book):
        raise NoEnd("the book has a ring, so that some run has no end")


def ending_holds(book, certificate):
    """Whether the object is a certificate that shows for this book what it says."""
    check_book(book)
    if is_tuple_of(certificate, 2):
        kind, table = certificate
        return is_word(kind, "ranks") and is_rank_table(book[0], table) and ranks_fall(book, table)
    if is_tuple_of(certificate, 3):
        kind, above, numbers = certificate
        return is_word(kind, "ring") and is_number_below(above, book[0]) and is_ring(book, above, numbers)
    return False


def is_rank_table(n, thing):
    """Whether the object is a tuple of n tuples of n integers from 0 on."""
    if not is_tuple_of(thing, n):
        return False
    for row in thing:
        if not is_tuple_of(row, n) or not all([is_integer(rank) and rank >= 0 for rank in row]):
            return False
    return True


def ranks_fall(book, table):
    """Whether each rule leads to a state with a lower rank in the table."""
    return all([table[above][own] > table[above][new] for above, own, new, _ in book[1]])


def is_ring(book, above, thing):
    """Whether the object is a list of numbers of rules that make a ring under this parent state."""
    rules = book[1]
    if not isinstance(thing, list) or len(thing) < 2:
        return False
    if not all([is_number_below(number, len(rules)) for number in thing]):
        return False
    if len(set(thing)) < len(thing):
        return False
    for place, number in enumerate(thing):
        # The rule before the first one is the last one, which has the index -1.
        if rules[number][0] != above or rules[thing[place - 1]][2] != rules[number][1]:
            return False
    return True


def step_bounds(book, tree):
    """For each node of the tree an integer: in no run more rules fire on the node."""
    check_tree(book, tree)
    check_ends(book)
    parents = tree[1]
    most = max([max(ranks_under(book, above)) for above in range(book[0])])
    bounds = []
    for parent in parents:
        grandparent = NO_PARENT if parent == NO_PARENT else parents[parent]
        bounds.append(most * (1 + bound_at(bounds, parent) + bound_at(bounds, grandparent)))
    return bounds


def bound_at(bounds, node):
    """The integer of a node, 0 outside a root."""
    return 0 if node == NO_PARENT else bounds[node]
