"""Whether every tree of a book has one rest, with certificates for either answer."""

from onerest.agreement import all_twins, forks_agree, forks_of, parting_of, results_table, twins_below, unlike_depths
from onerest.books import check_book
from onerest.ends import check_ends, has_ring
from onerest.errors import NoOneRest
from onerest.kinds import are_numbers_below, is_tuple_of, is_word
from onerest.trees import can_be_taken, is_at_rest, is_tree, line_of, run_steps, tree_behind
from onerest.ways import rest_ways


def outcome_of(book):
    """The certificate ("one", triples) if every tree has one rest, else ("two", line, one, other)."""
    check_book(book)
    check_ends(book)
    table = results_table(book)
    depths = unlike_depths(book[0], table)
    shortest = shortest_fork(book, table, depths)
    if shortest is None:
        return ("one", agreeing_triples(book[0], depths))
    line = line_through(book, table, depths, shortest)
    _, _, one, other = shortest
    return ("two", line, *unlike_runs(book, line, one, other))


def agreeing_triples(n, depths):
    """All twins that agree, ascending."""
    return [twin for twin in all_twins(n) if twin not in depths]


def shortest_fork(book, table, depths):
    """The fork that shows two rests with the fewest nodes, None if none does."""
    shortest = None
    fewest = 0
    # Forks without steps come first, and of equal ones the first is kept: a fork with
    # steps is taken only if runs from the top of shorter lines have one rest. So the
    # line never ends above a node on which a step of its fork fires.
    for fork in forks_of(book):
        nodes = nodes_until_unlike(depths, parting_of(book, table, fork))
        if nodes is not None and (shortest is None or nodes < fewest):
            shortest = fork
            fewest = nodes
    return shortest


def nodes_until_unlike(depths, parting):
    """The fewest nodes of a line that shows two rests by a fork, None if no line does."""
    nodes, twins = parting
    if twins is None:
        return nodes
    below = [depths[twin] for twin in twins if twin in depths]
    return nodes + min(below) if below != [] else None


def line_through(book, table, depths, fork):
    """The shortest line that shows two rests by a fork."""
    outside, states, _, _ = fork
    nodes, twins = parting_of(book, table, fork)
    if twins is None:
        return line_of(outside, states[:nodes])
    return line_of(outside, list(states) + states_below(book[0], table, depths, twins))


def states_below(n, table, depths, twins):
    """The states of the nodes below these twins, as few as can be, that show that one does not agree."""
    states = []
    depth = min([depths[twin] for twin in twins if twin in depths])
    twin = [twin for twin in twins if depths.get(twin) == depth][0]
    while depth > 1:
        depth -= 1
        found = [
            (state, below)
            for state in range(n) for below in twins_below(table, [twin], state, state)
            if depths.get(below) == depth
        ]
        state, twin = found[0]
        states.append(state)
    return states


def unlike_runs(book, line, one, other):
    """Two lists of steps that begin with these two and lead from the line to unlike rests."""
    runs = runs_by_last_rest(book, line, one)
    other_runs = runs_by_last_rest(book, line, other)
    return [(runs[rest], other_runs[unlike]) for rest in runs for unlike in other_runs if rest != unlike][0]


def runs_by_last_rest(book, line, steps):
    """For each state that runs from the top behind the steps can give the last node: such a run with the steps."""
    outside, _, states = run_steps(book, line, steps)
    runs = {(outside, states[0]): steps}
    for node in range(len(states)):
        # Below the last node no state is asked for, so that any will do.
        child = states[node + 1] if node + 1 < len(states) else 0
        longer = {}
        for above, own in runs:
            ways = rest_ways(book, above, own, child)
            for pair in ways:
                longer[pair] = runs[(above, own)] + [(node, number) for number in ways[pair]]
        runs = longer
    return {rest: runs[(rest, below)] for rest, below in runs}


def outcome_holds(book, certificate):
    """Whether the object is a certificate that shows for this book what it says."""
    check_book(book)
    check_ends(book)
    if is_tuple_of(certificate, 2):
        kind, triples = certificate
        return is_word(kind, "one") and are_triples(book[0], triples) and triples_hold(book, triples)
    if is_tuple_of(certificate, 4):
        kind, line, one, other = certificate
        return is_word(kind, "two") and is_tree(book, line) and are_unlike_runs(book, line, one, other)
    return False


def are_triples(n, thing):
    """Whether the object is a list of tuples of three states."""
    if not isinstance(thing, list):
        return False
    return all([is_tuple_of(triple, 3) and are_numbers_below(triple, n) for triple in thing])


def triples_hold(book, triples):
    """Whether the triples lead to triples only, and each fork to one of them."""
    table = results_table(book)
    agreed = {triple: True for triple in triples}
    for triple in agreed:
        for child in range(book[0]):
            below = twins_below(table, [triple], child, child)
            if below is None or not all([twin in agreed for twin in below]):
                return False
    return forks_agree(book, table, agreed)


def are_unlike_runs(book, tree, one, other):
    """Whether the objects are lists of steps that lead from the tree to unlike trees at rest."""
    rest = rest_behind(book, tree, one)
    other_rest = rest_behind(book, tree, other)
    return rest is not None and other_rest is not None and rest != other_rest


def rest_behind(book, tree, thing):
    """The tree at rest behind the steps of a list, None for any other object."""
    if not isinstance(thing, list):
        return None
    for step in thing:
        if not can_be_taken(book, tree, step):
            return None
        tree = tree_behind(book, tree, step)
    return tree if is_at_rest(book, tree) else None


def is_settled(book):
    """Whether the runs of the book end and every tree has one rest."""
    return not has_ring(book) and has_one_rest(book)


def has_one_rest(book):
    """Whether every tree has one rest, of a book whose runs end."""
    table = results_table(book)
    depths = unlike_depths(book[0], table)
    return forks_agree(book, table, {twin: True for twin in agreeing_triples(book[0], depths)})


def check_settled(book):
    """Raise NoEnd for a book with a ring, and NoOneRest if some tree has two rests."""
    check_ends(book)
    if not has_one_rest(book):
        raise NoOneRest("some tree of the book has two rests")
