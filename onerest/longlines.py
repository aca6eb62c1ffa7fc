"""Long lines: tuples (outside, pieces), which stand for lines of any number of nodes."""

from onerest.books import check_book, check_state
from onerest.errors import BadLine, NoNode
from onerest.kinds import are_numbers_below, is_integer_from, is_number_below, is_tuple_of
from onerest.outcomes import check_settled
from onerest.pieces import count_in, entries_of, entry_at, index_of, parted_at, pieces_read
from onerest.readers import reader_by_first_ways

MOST_PIECES = 12
MOST_STATES_OF_A_WORD = 12


def check_line(book, thing):
    """Raise BadBook, then BadLine, for objects that are no book and no long line of it."""
    check_book(book)
    if not is_long_line(book[0], thing):
        raise BadLine("this object is no long line of the book")


def is_long_line(n, thing):
    """Whether the object is a long line for n states."""
    if not is_tuple_of(thing, 2):
        return False
    outside, pieces = thing
    if not is_number_below(outside, n):
        return False
    if not isinstance(pieces, tuple) or len(pieces) > MOST_PIECES:
        return False
    return all([is_piece(n, piece) for piece in pieces])


def is_piece(n, thing):
    """Whether the object is a piece of a long line for n states."""
    if not is_tuple_of(thing, 2):
        return False
    word, times = thing
    if not isinstance(word, tuple) or not is_integer_from(len(word), 1, MOST_STATES_OF_A_WORD):
        return False
    return are_numbers_below(word, n) and is_integer_from(times, 1, 10 ** 40)


def check_index(line, thing):
    """Raise NoNode for an object that is not the index of a node of the line."""
    if not is_number_below(thing, entries_of(line[1])):
        raise NoNode("this object is not the index of a node")


def long_length(book, line):
    """The number of nodes of a long line."""
    check_line(book, line)
    return entries_of(line[1])


def long_state(book, line, index):
    """The initial state of a node of a long line."""
    check_line(book, line)
    check_index(line, index)
    return entry_at(line[1], index)


def long_rest_state(book, line, index):
    """The state of a node in the rest of a long line."""
    check_line(book, line)
    check_index(line, index)
    check_settled(book)
    return entry_at(rest_pieces(book, line), index)


def long_rest_counts(book, line):
    """For each state how many nodes of the rest are in it."""
    check_line(book, line)
    check_settled(book)
    pieces = rest_pieces(book, line)
    return tuple([count_in(pieces, state) for state in range(book[0])])


def long_rest_index(book, line, state, number):
    """The index of the number-th node, from 0, whose state in the rest is this one, None if there is none."""
    check_line(book, line)
    check_state(book, state)
    check_settled(book)
    return index_of(rest_pieces(book, line), state, number)


def rest_pieces(book, line):
    """The pieces of the states in the rest of a long line."""
    outside, pieces = line
    starts, rows = reader_by_first_ways(book)
    return read_by_rows(rows, starts[outside], pieces)[0]


def read_by_rows(rows, start, pieces):
    """The pieces of the states that a line gets whose root is read by this row, and the row behind it."""
    return pieces_read(lambda row, state: rows[row][state], start, pieces)


def long_change(book, line, index, state):
    """The tuple (count, last) of the nodes whose rests are other ones if the node begins in this state."""
    check_line(book, line)
    check_index(line, index)
    check_state(book, state)
    check_settled(book)
    changed = changed_pieces(book, line, index, state)
    count = count_in(changed, True)
    return (count, index_of(changed, True, count - 1))


def changed_pieces(book, line, index, state):
    """The pieces that tell for each node whether its rest is another one if the node begins in this state."""
    outside, pieces = line
    starts, rows = reader_by_first_ways(book)
    above, below = parted_at(pieces, index)
    row = read_by_rows(rows, starts[outside], above)[1]
    changed, below_node = parting_of((rows[row][entry_at(pieces, index)], rows[row][state]))
    changed_below = pieces_read(
        lambda pair, own: parting_of((rows[pair[0]][own], rows[pair[1]][own])), below_node, below,
    )[0]
    return [((False,), index), ((changed,), 1), *changed_below]


def parting_of(reads):
    """Whether the states of two pairs (state, row) are unlike, and the two rows."""
    (state, row), (other_state, other_row) = reads
    return (state != other_state, (row, other_row))
