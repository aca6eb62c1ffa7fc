"""Wishes: initial states by which a node comes to rest in a state that is asked for."""

from onerest.hands import check_settled_node
from onerest.outcomes import check_settled
from onerest.readers import reader_by_first_ways
from onerest.rows import told_by
from onerest.trees import NO_PARENT, line_of
from onerest.ways import check_states


def least_changes(book, tree, node, state):
    """The first of the shortest lists of (node, state) to set so that the node rests in the state, or None."""
    check_settled_node(book, tree, node, state)
    outside, parents, states = tree
    starts, rows = reader_by_first_ways(book)
    path = path_to(parents, node)
    owns = [states[k] for k in path]
    wished = wished_states(rows, starts[outside], owns, state)
    if wished is None:
        return None
    return [(path[k], wished[k]) for k in range(len(path)) if wished[k] != owns[k]]


def path_to(parents, node):
    """The nodes from a root down to the node."""
    path = []
    while node != NO_PARENT:
        path.append(node)
        node = parents[node]
    return path[::-1]


def wished_states(rows, row, owns, wanted):
    """The states to put in the place of owns on a path that is read by the row, so that its end is as wanted."""
    tables = costs_behind(rows, owns, wanted)
    if min(costs_with(tables[0][row], owns[0])) > len(owns):
        return None
    wished = []
    for place, own in enumerate(owns):
        costs = costs_with(tables[place][row], own)
        cheapest = [state for state, cost in enumerate(costs) if cost == min(costs)]
        # Of lists of the same length the one that changes the higher node comes first.
        others = [state for state in cheapest if state != own]
        state = others[0] if others != [] else own
        wished.append(state)
        row = rows[row][state][1]
    return wished


def costs_behind(rows, owns, wanted):
    """For each place, row and state the fewest changes further down, more than len(owns) if none help."""
    tables = [[[0 if found == wanted else len(owns) + 1 for found, _ in row] for row in rows]]
    for own in owns[:0:-1]:
        least = [min(costs_with(costs, own)) for costs in tables[-1]]
        tables.append([[least[after] for _, after in row] for row in rows])
    return tables[::-1]


def costs_with(costs, own):
    """The costs by states with one more for each state that is not the node's own."""
    return [cost if state == own else cost + 1 for state, cost in enumerate(costs)]


def shortest_with(book, outside, above, own):
    """The first of the shortest lines that rest with these states of the last node's parent and of itself, or None."""
    check_states(book, (outside, above, own))
    check_settled(book)
    starts, rows = reader_by_first_ways(book)
    # Entries as told_by asks for: a row, with the state that the node above it rests in.
    queue = [((starts[outside], outside), None, outside)]
    met = {}
    at = 0
    while at < len(queue):
        row, parent_rest = queue[at][0]
        if (row, parent_rest) not in met:
            met[(row, parent_rest)] = True
            for state, (rest, after) in enumerate(rows[row]):
                if (parent_rest, rest) == (above, own):
                    _, *states = told_by(queue, at)
                    return line_of(outside, [*states, state])
                queue.append(((after, rest), at, state))
        at += 1
    return None
