"""The rest of a tree of a settled book, and readers, which read the rests of all trees."""

from onerest.books import MOST_STATES, check_book
from onerest.errors import BadReader, BadTree
from onerest.kinds import are_numbers_below, is_number_below, is_tuple_of
from onerest.outcomes import check_settled
from onerest.rows import fewest_rows, first_unlike, readers_in_turn
from onerest.trees import NO_PARENT, check_tree, is_tree, run_steps
from onerest.ways import signal_of, way_by_least_numbers

MOST_ROWS = 400


def rest_of(book, tree):
    """The rest of a tree of a settled book."""
    check_tree(book, tree)
    check_settled(book)
    return run_from_top(book, tree)[1]


def join_runs(book, tree, one, other):
    """Two lists of steps, from the trees that two runs leave to the rest of the tree."""
    one_tree = run_steps(book, tree, one)
    other_tree = run_steps(book, tree, other)
    check_settled(book)
    return (run_from_top(book, one_tree)[0], run_from_top(book, other_tree)[0])


def run_from_top(book, tree):
    """The steps of the run from the top by first ways, and the rest that it leads to."""
    outside, parents, states = tree
    steps = []
    rests = []
    signals = []
    for node, parent in enumerate(parents):
        if parent == NO_PARENT:
            above, own = outside, states[node]
        else:
            above, own = rests[parent], signals[parent][states[node]]
        way = way_by_least_numbers(book, above, own)
        rest, signal = way_end(book, own, way)
        steps.extend([(node, number) for number in way])
        rests.append(rest)
        signals.append(signal)
    return (steps, (outside, parents, tuple(rests)))


def way_end(book, own, way):
    """The state of a node behind a way, and the signal of the whole way."""
    return (book[1][way[-1]][2] if way != [] else own, signal_of(book, way))


def is_reader(book, thing):
    """Whether the object is a reader for the n of this book."""
    check_book(book)
    return is_reader_for(book[0], thing)


def is_reader_for(n, thing):
    """Whether the object is a reader for n states."""
    if not is_tuple_of(thing, 2):
        return False
    starts, rows = thing
    if not isinstance(rows, tuple) or len(rows) > MOST_ROWS:
        return False
    if not is_tuple_of(starts, n) or not are_numbers_below(starts, len(rows)):
        return False
    return all([is_row(n, len(rows), row) for row in rows])


def is_row(n, many, thing):
    """Whether the object is a row of a reader with so many rows."""
    if not is_tuple_of(thing, n):
        return False
    for pair in thing:
        if not is_tuple_of(pair, 2) or not is_number_below(pair[0], n) or not is_number_below(pair[1], many):
            return False
    return True


def read_states(reader, tree):
    """The states that the nodes of a tree get by a reader."""
    if not any([is_reader_for(n, reader) for n in range(1, MOST_STATES + 1)]):
        raise BadReader("this object is no reader")
    starts, rows = reader
    if not is_tree((len(starts), ()), tree):
        raise BadTree("this object is no tree of the states that the reader knows")
    outside, parents, states = tree
    found = []
    rows_below = []
    for node, parent in enumerate(parents):
        row = starts[outside] if parent == NO_PARENT else rows_below[parent]
        state, below = rows[row][states[node]]
        found.append(state)
        rows_below.append(below)
    return tuple(found)


def reader_of(book):
    """The reader of a settled book with the fewest rows that gives every tree its rest."""
    check_book(book)
    check_settled(book)
    return reader_by_first_ways(book)


def reader_by_first_ways(book):
    """As reader_of, of a book whose runs end: the reader of its runs from the top by first ways."""
    # What a node becomes depends on the rest of its parent and on the whole signal of the
    # parent's way only, so that these two stand for a row.
    n = book[0]
    queue = [(above, tuple(range(n))) for above in range(n)]
    numbers = {pair: number for number, pair in enumerate(queue)}
    rows = []
    at = 0
    while at < len(queue):
        above, signal = queue[at]
        row = []
        for own in signal:
            pair = way_end(book, own, way_by_least_numbers(book, above, own))
            if pair not in numbers:
                numbers[pair] = len(queue)
                queue.append(pair)
            row.append((pair[0], numbers[pair]))
        rows.append(row)
        at += 1
    return fewest_rows(list(range(n)), rows)


def reader_holds(book, reader):
    """Whether the reader gives every tree of this settled book its rest."""
    check_book(book)
    if not is_reader_for(book[0], reader):
        raise BadReader("this object is no reader for this book")
    check_settled(book)
    return first_unlike(reader_by_first_ways(book), reader) is None


def joined_reader(reader, other):
    """The reader with the fewest rows that does what the first reader and then the other one does."""
    return readers_in_turn(reader, other)
