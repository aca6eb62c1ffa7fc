"""Readers without books: fewest rows, lines that two readers tell apart, two readers in turn.

A reader is a tuple (starts, rows); rows[k][state] is a tuple (state, row) of the state that a
node gets and of the row that its children are read by. Here lists may stand for the tuples.
"""


def fewest_rows(starts, rows):
    """The reader with the fewest rows that reads as this one does, numbered as they are met."""
    classes = row_classes(rows)
    numbers = {}
    kept = []
    queue = list(starts)
    at = 0
    while at < len(queue):
        row = queue[at]
        if classes[row] not in numbers:
            numbers[classes[row]] = len(kept)
            kept.append(row)
            queue.extend([after for _, after in rows[row]])
        at += 1
    kept_rows = [tuple([(state, numbers[classes[after]]) for state, after in rows[first]]) for first in kept]
    return (tuple([numbers[classes[start]] for start in starts]), tuple(kept_rows))


def row_classes(rows):
    """For each row a number: two have the same one exactly if they read all trees alike."""
    classes = first_places([tuple([state for state, _ in row]) for row in rows])
    finer = finer_classes(rows, classes)
    while finer != classes:
        classes = finer
        finer = finer_classes(rows, classes)
    return classes


def finer_classes(rows, classes):
    """The classes, parted by the classes of the rows that come next."""
    return first_places([
        (classes[row], tuple([classes[after] for _, after in pairs])) for row, pairs in enumerate(rows)
    ])


def first_places(things):
    """For each entry the index of the first one that is equal to it."""
    places = {}
    for place, thing in enumerate(things):
        places.setdefault(thing, place)
    return [places[thing] for thing in things]


def first_unlike(reader, other):
    """None if two readers read all trees alike, else the first of the shortest lines that they do not.

    The line is a tuple (outside, states), and such tuples are compared.
    """
    met = {}
    # Entries (pair of rows, index of the entry above, the outside or state that led here), in
    # the order of the lines: the first line to a pair is the best one to go on from.
    queue = [(pair, None, outside) for outside, pair in enumerate(zip(reader[0], other[0]))]
    at = 0
    while at < len(queue):
        row, other_row = queue[at][0]
        if (row, other_row) not in met:
            met[(row, other_row)] = True
            for state, (found, other_found) in enumerate(zip(reader[1][row], other[1][other_row])):
                if found[0] != other_found[0]:
                    outside, *states = told_by(queue, at)
                    return (outside, (*states, state))
                queue.append(((found[1], other_found[1]), at, state))
        at += 1
    return None


def told_by(queue, at):
    """The outside and the states that led to an entry of a queue of entries (.., index above, state)."""
    told = []
    while at is not None:
        _, above, state = queue[at]
        told.append(state)
        at = above
    return told[::-1]


def readers_in_turn(reader, other):
    """The reader with the fewest rows that reads what the other one reads in what the first one reads."""
    starts = list(zip(reader[0], other[0]))
    pairs = []
    numbers = {}
    queue = list(starts)
    at = 0
    while at < len(queue):
        if queue[at] not in numbers:
            numbers[queue[at]] = len(pairs)
            pairs.append(queue[at])
            queue.extend([after for _, after in row_in_turn(reader, other, queue[at])])
        at += 1
    rows = [
        [(state, numbers[after]) for state, after in row_in_turn(reader, other, pair)]
        for pair in pairs
    ]
    return fewest_rows([numbers[start] for start in starts], rows)


def row_in_turn(reader, other, pair):
    """The row of a pair of rows: tuples of a state and of the next pair."""
    row, other_row = pair
    read = []
    for state, after in reader[1][row]:
        other_state, other_after = other[1][other_row][state]
        read.append((other_state, (after, other_after)))
    return read
