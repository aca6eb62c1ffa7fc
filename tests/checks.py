"""What several tests ask of functions: which errors they raise, and that their answers are new."""

import copy

from onerest.errors import BadBook, BadState, BadStep, BadTree, NoEnd, NoNode, NoOneRest
from tests.samples import EXAMPLE, EXAMPLE_TREE, NEVER_STEPS, NO_BOOKS, NO_NUMBERS_BELOW_TWO, NO_TREES
from tests.samples import TWO_RESTS, TWO_STATES

# Parameters of functions: an argument that is good with EXAMPLE and EXAMPLE_TREE, others that
# are not, and the error for these.
BOOK = (EXAMPLE, NO_BOOKS, BadBook)
TREE = (EXAMPLE_TREE, NO_TREES, BadTree)
NODE = (1, NO_NUMBERS_BELOW_TWO, NoNode)
STATE = (0, NO_NUMBERS_BELOW_TWO, BadState)
STEPS = ([], [[step] for step in NEVER_STEPS], BadStep)


def check_book_and_tree(case, asked, *rest):
    """BadBook, then BadTree, of a function that takes a book and a tree first."""
    check_order(case, asked, [BOOK, TREE, *[(argument, [None], None) for argument in rest]])


def check_order(case, asked, parameters):
    """Each wrong argument raises its error, whatever stands behind it, where those before it are good.

    A parameter whose error is None is asked with its good argument only, or behind a wrong one.
    """
    for place, (_, wrong, error) in enumerate(parameters):
        if error is None:
            continue
        before = [good for good, _, _ in parameters[:place]]
        good_rest = [good for good, _, _ in parameters[place + 1:]]
        wrong_rest = [others[-1] for _, others, _ in parameters[place + 1:]]
        for thing in wrong:
            for rest in (good_rest, wrong_rest):
                with case.assertRaises(error):
                    asked(*before, thing, *rest)


def check_needs(case, asked, parameters, errors):
    """The errors about the book come behind all those about arguments.

    TWO_STATES has a ring and trees with two rests, TWO_RESTS only such trees; both have two
    states, so that what is wrong with EXAMPLE is wrong with them.
    """
    check_order(case, asked, parameters)
    rest = [good for good, _, _ in parameters[1:]]
    for book, error in ((TWO_STATES, NoEnd), (TWO_RESTS, NoOneRest)):
        check_order(case, asked, [(book, [], None), *parameters[1:]])
        if error in errors:
            with case.assertRaises(error):
                asked(book, *rest)
        else:
            asked(book, *rest)


def check_answers(case, asked, arguments, names):
    """Equal answers by position and by name, new ones each time, and arguments that stay as they are."""
    held = copy.deepcopy(arguments)
    found = asked(*arguments)
    again = copy.deepcopy(found)
    spoil(found)
    case.assertEqual(asked(*arguments), again)
    case.assertEqual(asked(**dict(reversed(list(zip(names, arguments))))), again)
    case.assertEqual(arguments, held)


def spoil(thing):
    """Change each list in an answer, at any depth."""
    if isinstance(thing, (list, tuple)):
        for part in thing:
            spoil(part)
    if isinstance(thing, list):
        thing.append("spoilt")
        thing.reverse()
