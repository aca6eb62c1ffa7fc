"""Objects, books and trees that several test files use."""

import itertools


class Hostile:
    """An object that can neither be compared, measured, iterated, indexed, hashed nor tested."""

    __hash__ = None

    def _refuse(self, *rest):
        raise RuntimeError("this object was asked")

    __eq__ = __ne__ = __lt__ = __le__ = __gt__ = __ge__ = _refuse
    __len__ = __iter__ = __getitem__ = __bool__ = __contains__ = __index__ = __int__ = _refuse
    __str__ = __repr__ = __add__ = __radd__ = __sub__ = __rsub__ = _refuse


class EqualToAll:
    """An object that says that it is equal to each other one."""

    def __eq__(self, other):
        return True

    def __hash__(self):
        return 0


def nested(levels, kind):
    thing = kind()
    for _ in range(levels):
        thing = kind([thing])
    return thing


def self_held():
    thing = []
    thing.append(thing)
    return thing


# No integers, and nothing that is a rule, a step, a book or a tree.
NO_NUMBERS = [
    None, True, False, "", "0", "1", "(1, ())", b"", b"\x00", [], [0], [1], (), (0,), (1,), ((),),
    {}, {0: 0}, {1: ()}, set(), {0}, frozenset([1]), range(2), iter(()), object(), object, int, tuple,
    len, lambda: 0, ValueError(), NotImplemented, Ellipsis, Hostile(), EqualToAll(),
    nested(99, list), nested(99, tuple), self_held(),
]
BIG = 10 ** 59
OTHERS = NO_NUMBERS + [0, 1, -1, 2, 3, BIG, -BIG]

EXAMPLE = (2, ((1, 0, 1, (0, 0)),))
EXAMPLE_TREE = (1, (-1, 0), (0, 1))

ONE_STATE = (1, ())
# Under a parent in state 0, state 0 can go two ways; the ring 0 -> 1 -> 0 makes runs without an end.
TWO_STATES = (2, (
    (0, 0, 1, (1, 0)),
    (0, 1, 0, (0, 1)),
    (1, 0, 1, (1, 1)),
    (0, 0, 1, (0, 0)),
))
THREE_STATES = (3, (
    (2, 0, 1, (1, 2, 0)),
    (0, 2, 0, (2, 1, 0)),
    (2, 0, 2, (0, 0, 0)),
    (1, 1, 2, (0, 2, 2)),
    (2, 0, 1, (0, 1, 2)),
))
FOUR_STATES = (4, (
    (3, 0, 3, (3, 2, 1, 0)),
    (0, 3, 1, (1, 1, 1, 1)),
    (3, 0, 2, (0, 1, 2, 3)),
    (2, 2, 0, (1, 2, 3, 0)),
    (1, 2, 3, (2, 2, 0, 0)),
))
# Runs end, but a child of a root in state 0 can come to rest in either state.
TWO_RESTS = (2, ((0, 0, 1, (0, 0)), (0, 0, 1, (1, 1))))
BOOKS = [ONE_STATE, EXAMPLE, TWO_STATES, THREE_STATES, FOUR_STATES]


def all_trees(n, nodes):
    """Every tree of a book with n states and with so many nodes."""
    for outside in range(n):
        for parents in itertools.product(*[range(-1, node) for node in range(nodes)]):
            for states in itertools.product(range(n), repeat=nodes):
                yield (outside, parents, states)


def line_of(nodes, outside=0, state=0):
    return line_of_states(outside, (state,) * nodes)


def line_of_states(outside, states):
    return (outside, tuple(range(-1, len(states) - 1)), tuple(states))


def replaced(thing, path, part):
    """A copy of nested tuples with another part at the place that the path of indices tells."""
    if not path:
        return part
    head, *rest = path
    return thing[:head] + (replaced(thing[head], rest, part),) + thing[head + 1:]


def paths_of(thing):
    """The paths to all parts of nested tuples, the whole among them."""
    yield ()
    if isinstance(thing, tuple):
        for place, part in enumerate(thing):
            for path in paths_of(part):
                yield (place, *path)


def part_at(thing, path):
    for place in path:
        thing = thing[place]
    return thing


def misformed(thing):
    """Copies of nested tuples: a truth for a 0 or 1, or a list for a tuple, at one place."""
    for path in paths_of(thing):
        part = part_at(thing, path)
        if isinstance(part, tuple):
            yield replaced(thing, path, list(part))
        elif part in (0, 1):
            yield replaced(thing, path, bool(part))


NO_BOOKS = [
    *OTHERS, *misformed(EXAMPLE), (5, ()), (2, ((0, 1, 1, (0, 0)),)), (2, (EXAMPLE[1][0], EXAMPLE[1][0])),
]

# No trees of a book with two states.
NO_TREES = [
    *OTHERS,
    *misformed(EXAMPLE_TREE),
    *misformed((0, (-1, -1, 1), (1, 1, 0))),
    (2, (), ()),
    (0, (-1,), (2,)),
    (0, (0,), (0,)),
    (0, (-2,), (0,)),
    (0, (-1, 1), (0, 0)),
    (0, (-1,), ()),
    (0, (), (0,)),
    (0, ()),
    (0, (), (), ()),
    line_of(251),
]

# No steps in any tree of two nodes; then also by a book of one rule.
NEVER_STEPS = [
    *OTHERS, (2, 0), (-1, 0), (0, -1), (-1, -1), (-2, 0), (0, BIG), (BIG, 0), (0, 0, 0),
    [0, 0], (False, 0), (0, False), (False, False), ((0,), 0), (0, (0,)), (0, None), (None, 0),
    ("0", 0), (0, "0"), "00", ((0, 0),), [(0, 0)],
]
NO_STEPS = [*NEVER_STEPS, (0, 1), (1, 1)]

# No states of a book with two states, and no numbers of nodes of a tree with two nodes.
NO_NUMBERS_BELOW_TWO = [-1, -2, 2, 3, BIG, -BIG, *NO_NUMBERS]

# Books by which every tree has one rest: changes go down two and four steps, or on and on, and
# the readers have six and eight rows.
TWO_DOWN = (3, ((2, 0, 2, (1, 1, 2)),))
FOUR_DOWN = (4, ((0, 3, 1, (0, 1, 1, 2)), (1, 2, 1, (0, 1, 3, 3))))
ON_AND_ON = (3, ((2, 1, 2, (1, 1, 1)), (1, 0, 2, (2, 1, 1))))
ROUND_AND_ROUND = (4, ((0, 1, 2, (0, 3, 0, 3)), (3, 1, 3, (0, 0, 1, 3))))
SIX_ROWS = (3, ((0, 2, 1, (1, 1, 1)), (1, 1, 0, (2, 2, 2)), (1, 2, 0, (2, 1, 2))))
EIGHT_ROWS = (4, (
    (1, 0, 1, (0, 0, 2, 2)),
    (1, 2, 0, (2, 2, 0, 0)),
    (2, 2, 1, (0, 2, 0, 3)),
    (2, 0, 2, (3, 0, 1, 3)),
    (3, 0, 1, (1, 2, 2, 0)),
))
NO_RULES = [(n, ()) for n in (1, 2, 3, 4)]
SETTLED = [EXAMPLE, TWO_DOWN, FOUR_DOWN, ON_AND_ON, ROUND_AND_ROUND, SIX_ROWS, EIGHT_ROWS, *NO_RULES]
