"""Ways: the rules that fire on one node, one after the other, while its parent's state stays."""

from onerest.books import check_book, check_state, fitting_rules
from onerest.ends import check_ends
from onerest.errors import BadWay
from onerest.kinds import is_number_below


def way_result(book, above, own, numbers):
    """The tuple (state, signal) of the node's state behind the way, and of where a child's states go."""
    check_states(book, (above, own))
    for place, number in enumerate(numbers):
        if not is_number_below(number, len(book[1])) or number not in fitting_rules(book, above, own):
            raise BadWay(place)
        own = book[1][number][2]
    return (own, signal_of(book, numbers))


def signal_of(book, numbers):
    """For each state of a child the state to which the signals of these rules, in order, take it."""
    signal = list(range(book[0]))
    for number in numbers:
        signal = [book[1][number][3][state] for state in signal]
    return tuple(signal)


def check_states(book, states):
    """Raise BadBook, then BadState, for objects that are no book and no states of it."""
    check_book(book)
    for state in states:
        check_state(book, state)


def node_rests(book, above, own):
    """The states, ascending, in which a way can leave the node so that no rule can fire on it."""
    check_states(book, (above, own))
    check_ends(book)
    return sorted(set([rest for rest, _ in results_of(book, above, own, own)]))


def node_results(book, above, own, child):
    """All tuples (rest, child), ascending, for ways that leave the node at rest."""
    check_states(book, (above, own, child))
    check_ends(book)
    return results_of(book, above, own, child)


def results_of(book, above, own, child):
    """As node_results, of a book and states that are known to be good."""
    return sorted(list(rest_ways(book, above, own, child)))


def rest_ways(book, above, own, child):
    """For each (rest, child) of node_results a way that leads there."""
    ways = {(own, child): []}
    met = [(own, child)]
    at = 0
    while at < len(met):
        state, below = met[at]
        for number in fitting_rules(book, above, state):
            _, _, new, signal = book[1][number]
            pair = (new, signal[below])
            if pair not in ways:
                ways[pair] = ways[(state, below)] + [number]
                met.append(pair)
        at += 1
    return {pair: ways[pair] for pair in met if fitting_rules(book, above, pair[0]) == []}


def first_way(book, above, own):
    """The way on which always the rule with the least number fires, until none can."""
    check_states(book, (above, own))
    check_ends(book)
    return way_by_least_numbers(book, above, own)


def way_by_least_numbers(book, above, own):
    """As first_way, of a book and states that are known to be good."""
    way = []
    fitting = fitting_rules(book, above, own)
    while fitting != []:
        way.append(fitting[0])
        fitting = fitting_rules(book, above, book[1][fitting[0]][2])
    return way
