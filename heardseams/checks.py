"""What an integer is, and the checks of arguments that several files share."""

from heardseams.errors import NoLengths, NoNumber

MOST_WORDS = 40
MOST_LENGTH = 10 ** 6


def is_integer(thing):
    """Whether the thing is an int that is not a flag."""
    return isinstance(thing, int) and not isinstance(thing, bool)


def is_within(thing, least, most):
    """Whether the thing is an integer from the least to the most one."""
    return is_integer(thing) and least <= thing <= most


def are_lengths(thing):
    """Whether the thing is a tuple of the lengths of 1 to 40 words."""
    if not isinstance(thing, tuple) or not 1 <= len(thing) <= MOST_WORDS:
        return False
    return all([is_within(length, 1, MOST_LENGTH) for length in thing])


def need_number(thing, least, most):
    """Raises NoNumber unless the thing is an integer within the bounds."""
    if not is_within(thing, least, most):
        raise NoNumber()


def need_lengths(thing):
    """Raises NoLengths unless the thing is a tuple of lengths."""
    if not are_lengths(thing):
        raise NoLengths()
