"""Lengths that are to be chosen at prices, so that two shapes can be heard apart, or never can."""

from heardseams.checks import is_within, need_number
from heardseams.errors import NoChoices, TooMany
from heardseams.numbers import LEAST_REACH, MOST_REACH, need_shape_for, spots_of, unlike_pairs

MOST_WORDS_CHOSEN = 10
MOST_PAIRS_EACH = 5
MOST_LENGTH_CHOSEN = 1000
MOST_PRICE = 10 ** 9
MOST_WAYS = 20000


def _is_pair(thing):
    """Whether the thing is a pair of a length and a price."""
    if not isinstance(thing, tuple) or len(thing) != 2:
        return False
    return is_within(thing[0], 1, MOST_LENGTH_CHOSEN) and is_within(thing[1], 0, MOST_PRICE)


def _is_choice(thing):
    """Whether the thing is a tuple of 1 to 5 pairs of a length and a price."""
    if not isinstance(thing, tuple) or not 1 <= len(thing) <= MOST_PAIRS_EACH:
        return False
    return all([_is_pair(pair) for pair in thing])


def _are_choices(thing):
    """Whether the thing is a tuple of the choices for 1 to 10 words."""
    if not isinstance(thing, tuple) or not 1 <= len(thing) <= MOST_WORDS_CHOSEN:
        return False
    return all([_is_choice(choice) for choice in thing])


def _need_few_ways(choices):
    """Raises TooMany if there are too many ways to take a pair for each word."""
    many = 1
    for choice in choices:
        many *= len(choice)
    if many > MOST_WAYS:
        raise TooMany(MOST_WAYS)


def _need_question(choices, one, other, reach):
    """Checks the choices, the two shapes and the reach."""
    if not _are_choices(choices):
        raise NoChoices()
    need_shape_for(choices, one)
    need_shape_for(choices, other)
    need_number(reach, LEAST_REACH, MOST_REACH)
    _need_few_ways(choices)


def _ways(choices):
    """The ascending list of (sum of the prices, lengths) of all ways to choose."""
    ways = [(0, ())]
    for choice in choices:
        ways = [(paid + price, lengths + (length,)) for paid, lengths in ways for length, price in choice]
    return sorted(ways)


def _are_apart(lengths, pairs, reach):
    """Whether two of these pairs of seams, which stand unlike, are nearer than the reach."""
    spots = spots_of(lengths)
    return any([spots[q] - spots[p] < reach for p, q in pairs])


def _cheapest(choices, one, other, reach, apart):
    """The first way with whose lengths the shapes can be heard apart, or cannot, None if there is none."""
    # How seams stand hangs on no lengths.
    pairs = [(p, q) for _, p, q in unlike_pairs((1,) * len(choices), one, other)]
    for paid, lengths in _ways(choices):
        if _are_apart(lengths, pairs, reach) == apart:
            return paid, lengths
    return None


def cheapest_apart(choices, one, other, reach):
    """The least sum of prices, and the lengths, with which some book of this reach parts the two shapes."""
    _need_question(choices, one, other, reach)
    return _cheapest(choices, one, other, reach, True)


def cheapest_alike(choices, one, other, reach):
    """The least sum of prices, and the lengths, with which every book of this reach says both alike."""
    _need_question(choices, one, other, reach)
    return _cheapest(choices, one, other, reach, False)
