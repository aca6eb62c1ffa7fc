"""The points once more, by the plainest means: trying everything, mostly without the package's own code."""

import collections
import functools
import itertools
import random

from onerest.outcomes import outcome_of
from tests.samples import all_trees, line_of_states


def steps_by_the_words(book, tree):
    """Point 5 once more: the steps, found by looking at each pair of a node and a rule."""
    outside, parents, states = tree
    found = []
    for node in range(len(states)):
        parent_state = outside if parents[node] == -1 else states[parents[node]]
        for number, rule in enumerate(book[1]):
            if (rule[0], rule[1]) == (parent_state, states[node]):
                found.append((node, number))
    return found


def tree_by_the_words(book, tree, step):
    """Point 5 once more: the new states, one node after the other."""
    outside, parents, states = tree
    node, number = step
    _, _, new, signal = book[1][number]
    after = list(states)
    for other in range(len(states)):
        if other == node:
            after[other] = new
        elif parents[other] == node:
            after[other] = signal[states[other]]
    return (outside, parents, tuple(after))


def tree_behind_steps(book, tree, steps):
    """The tree behind steps, each of which must be able to be taken."""
    for step in steps:
        if step not in steps_by_the_words(book, tree):
            raise AssertionError(f"{step} cannot be taken in {tree}")
        tree = tree_by_the_words(book, tree, step)
    return tree


def small_trees(book, most=3):
    for nodes in range(most + 1):
        yield from all_trees(book[0], nodes)


def all_lines(n, nodes):
    """Every line with so many nodes, as tuples (outside, states) are ordered."""
    for outside in range(n):
        for states in itertools.product(range(n), repeat=nodes):
            yield line_of_states(outside, states)


def lines_up_to(n, most):
    for nodes in range(1, most + 1):
        yield from all_lines(n, nodes)


def rests_by_all_runs(book, tree, met=None):
    """All rests of a tree of a book whose runs end, by taking all steps in every order."""
    met = {} if met is None else met
    if tree not in met:
        steps = steps_by_the_words(book, tree)
        found = set() if steps else {tree}
        for step in steps:
            found |= rests_by_all_runs(book, tree_by_the_words(book, tree, step), met)
        met[tree] = found
    return met[tree]


def rest_by_last_steps(book, tree):
    """A rest of a tree, by the run that always takes the last step that can be taken."""
    steps = steps_by_the_words(book, tree)
    while steps:
        tree = tree_by_the_words(book, tree, steps[-1])
        steps = steps_by_the_words(book, tree)
    return tree


def states_read(reader, tree):
    """Point 27 once more, each node by itself: the rows from its root down to it."""
    starts, rows = reader
    outside, parents, states = tree
    found = []
    for node in range(len(states)):
        path = [node]
        while parents[path[0]] != -1:
            path.insert(0, parents[path[0]])
        row = starts[outside]
        for place in path:
            state, row = rows[row][states[place]]
        found.append(state)
    return tuple(found)


def written_out(line):
    """The line that a long line of few nodes stands for."""
    outside, pieces = line
    return line_of_states(outside, [state for word, times in pieces for _ in range(times) for state in word])


def first_nodes(line, many):
    """The long line of the first nodes of a long line."""
    outside, pieces = line
    kept = []
    for word, times in pieces:
        copies, more = divmod(min(many, len(word) * times), len(word))
        kept += [(word, copies)] * (copies > 0) + [(word[:more], 1)] * (more > 0)
        many -= copies * len(word) + more
    return (outside, tuple(kept))


def counted_by_doubling(table, start, pieces):
    """How often each thing is found in a line, where table[key][state] is a tuple (found, next key).

    What so many copies of a word do is put together from what 1, 2, 4, 8 .. copies do.
    """
    counts, key = collections.Counter(), start
    for word, times in pieces:
        power = {begin: word_by_table(table, begin, word) for begin in table}
        while times:
            if times % 2:
                counts, key = counts + power[key][0], power[key][1]
            power = {
                begin: (found + power[behind][0], power[behind][1]) for begin, (found, behind) in power.items()
            }
            times //= 2
    return counts


def word_by_table(table, key, word):
    counts = collections.Counter()
    for state in word:
        found, key = table[key][state]
        counts[found] += 1
    return (counts, key)


def nodes_of_two_rests(book, most):
    """The fewest nodes, up to most, of a line with two rests; None if no such line has two."""
    met = {}
    for line in lines_up_to(book[0], most):
        if len(rests_by_all_runs(book, line, met)) > 1:
            return len(line[2])
    return None


def walks_by_the_words(book, above, own, most):
    """All lists of at most so many rules that fire one after the other, with the state that each leads to."""
    found = [([], own)]
    if most:
        for number, rule in enumerate(book[1]):
            if rule[:2] == (above, own):
                for walk, state in walks_by_the_words(book, above, rule[2], most - 1):
                    found.append(([number] + walk, state))
    return found


def has_ring_by_the_words(book):
    """A walk of n rules comes to a state twice, and only where there is a ring there is such a walk."""
    n = book[0]
    return any(
        len(walk) == n
        for above in range(n) for own in range(n) for walk, _ in walks_by_the_words(book, above, own, n)
    )


def results_by_the_words(book, above, own, child):
    """Point 16: the node, and a child that fires nothing, behind all walks that leave the node at rest."""
    found = set()
    for walk, state in walks_by_the_words(book, above, own, book[0]):
        if not any(rule[:2] == (above, state) for rule in book[1]):
            below = child
            for number in walk:
                below = book[1][number][3][below]
            found.add((state, below))
    return sorted(found)


def points_that_fail(book, triples):
    """The points of 22 to 25, word by word, that do not hold for these triples."""
    states = range(book[0])
    table = {key: results_by_the_words(book, *key) for key in itertools.product(states, repeat=3)}
    checks = {22: point_22, 23: point_23, 24: point_24, 25: point_25}
    return [point for point, holds in checks.items() if not holds(book, set(triples), table)]


def point_22(book, held, table):
    return all((above, a, a) in held for above, a in itertools.product(range(book[0]), repeat=2))


def point_23(book, held, table):
    for (above, a, b), d in itertools.product(held, range(book[0])):
        if len({rest for rest, _ in table[(above, a, d)] + table[(above, b, d)]}) > 1:
            return False
        for (r, x), (_, y) in itertools.product(table[(above, a, d)], table[(above, b, d)]):
            if (r, x, y) not in held:
                return False
    return True


def point_24(book, held, table):
    for (u, a, b, f), (low, s, t, g), d in itertools.product(book[1], book[1], range(book[0])):
        if low != a:
            continue
        for (v, x), (w, y) in itertools.product(table[(u, b, f[s])], table[(u, b, f[t])]):
            if v != w:
                return False
            for (r, p), (q, z) in itertools.product(table[(v, x, d)], table[(v, y, g[d])]):
                if r != q or (r, p, z) not in held:
                    return False
    return True


def point_25(book, held, table):
    for (u, _, b, f), (c, s, t, g), d in itertools.product(book[1], book[1], range(book[0])):
        for (v, x), (w, y) in itertools.product(table[(u, b, f[c])], repeat=2):
            if v != w:
                return False
            for (r, p), (q, z) in itertools.product(table[(v, x, s)], table[(v, y, t)]):
                if r != q:
                    return False
                for (i, j), (k, m) in itertools.product(table[(r, p, d)], table[(r, z, g[d])]):
                    if i != k or (i, j, m) not in held:
                        return False
    return True


def random_rule(chance, n):
    above, own = chance.randrange(n), chance.randrange(n)
    new = chance.choice([state for state in range(n) if state != own])
    signal = chance.choice([
        tuple(range(n)), (chance.randrange(n),) * n, tuple(chance.randrange(n) for _ in range(n)),
    ])
    return (above, own, new, signal)


def random_books(seed, many, n, most_rules):
    """So many books with n states, the same ones at each call."""
    chance = random.Random(seed)
    for _ in range(many):
        rules = [random_rule(chance, n) for _ in range(chance.randrange(most_rules + 1))]
        yield (n, tuple(dict.fromkeys(rules)))


def all_books_that_end():
    """All books with two states, up to the order of their rules, whose runs end: under one parent
    state all rules lead from 0 to 1, or all from 1 to 0."""
    signals = list(itertools.product((0, 1), repeat=2))
    for own, other_own in itertools.product((0, 1), repeat=2):
        for chosen, other in itertools.product(range(16), repeat=2):
            if (own and not chosen) or (other_own and not other):
                continue
            rules = [(0, own, 1 - own, signals[k]) for k in range(4) if chosen >> k & 1]
            rules += [(1, other_own, 1 - other_own, signals[k]) for k in range(4) if other >> k & 1]
            yield (2, tuple(rules))


def is_settled_by_certificate(book):
    """Whether the book is settled, with the certificate for it taken at its word."""
    return not has_ring_by_the_words(book) and outcome_of(book)[0] == "one"


@functools.lru_cache(maxsize=None)
def settled_books(seed, many, n, most_rules):
    """Settled ones among so many random books, the same ones at each call."""
    return [book for book in random_books(seed, many, n, most_rules) if is_settled_by_certificate(book)]


@functools.lru_cache(maxsize=None)
def settled_books_of_two_states():
    return [book for book in all_books_that_end() if is_settled_by_certificate(book)]
