"""What any object is: an integer, a number below a limit, a word, a tuple of a length.

The kind of an object is asked before it is compared with anything, because an object
of another kind may compare in any way.
"""


def is_integer(thing):
    """Whether the object is an integer."""
    # True and False are ints in Python, but no integers here.
    return isinstance(thing, int) and not isinstance(thing, bool)


def is_integer_from(thing, low, high):
    """Whether the object is an integer from low to high, both included."""
    return is_integer(thing) and low <= thing <= high


def is_number_below(thing, limit):
    """Whether the object is an integer from 0 to limit - 1."""
    return is_integer_from(thing, 0, limit - 1)


def is_word(thing, word):
    """Whether the object is this string."""
    return isinstance(thing, str) and thing == word


def is_tuple_of(thing, length):
    """Whether the object is a tuple with so many entries."""
    return isinstance(thing, tuple) and len(thing) == length


def are_numbers_below(things, limit):
    """Whether each entry of a tuple or list is an integer from 0 to limit - 1."""
    return all([is_number_below(thing, limit) for thing in things])
