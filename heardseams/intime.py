"""Joinings in time: the orders in which a phrase is joined, and what happens at its places."""

from math import factorial

from heardseams.checks import MOST_WORDS, is_within, need_number
from heardseams.errors import NoOrder, TooMany
from heardseams.rows import lengths_of, need_words
from heardseams.saying import need_phrase, new_sounds, row_said, windows
from heardseams.shapes import need_shape, phrase_of, seam_over

MOST_ORDERS = 1000


def _is_order(thing):
    """Whether the thing is a tuple of all seams of 1 to 40 words, each once."""
    if not isinstance(thing, tuple) or len(thing) >= MOST_WORDS:
        return False
    if not all([is_within(seam, 0, len(thing) - 1) for seam in thing]):
        return False
    return len(set(thing)) == len(thing)


def _shape_made(order):
    """The shape that the order makes."""
    depths = [0] * len(order)
    done = [False] * len(order)
    for seam in order:
        first, last = seam, seam + 1
        while first > 0 and done[first - 1]:
            first -= 1
        while last < len(order) and done[last]:
            last += 1
        for other in range(first, last):
            if other != seam:
                depths[other] += 1
        done[seam] = True
    return tuple(depths)


def _many_orders(shape):
    """How many orders make the shape."""
    # Of all orders of the seams of a phrase one in as many as there are seams
    # has its outermost seam last, whatever else holds within its two parts.
    others = 1
    for seam in range(len(shape)):
        first, last = phrase_of(shape, seam)
        others *= last - first
    return factorial(len(shape)) // others


def _ready(unders, order):
    """The ascending list of the seams that can come next behind the start of an order."""
    done = set(order)
    return [
        seam for seam in range(len(unders))
        if seam not in done and all([under in done for under in unders[seam]])
    ]


def _all_orders(shape):
    """The ascending list of all orders that make the shape."""
    unders = [[] for _ in shape]
    for seam in range(len(shape)):
        over = seam_over(shape, seam)
        if over is not None:
            unders[over].append(seam)
    orders = [()]
    for _ in shape:
        orders = [order + (seam,) for order in orders for seam in _ready(unders, order)]
    return orders


def shape_in_time(order):
    """The shape that joinings in this order make."""
    if not _is_order(order):
        raise NoOrder()
    return _shape_made(order)


def orders_many(shape):
    """How many orders make the shape."""
    need_shape(shape)
    return _many_orders(shape)


def orders_of(shape):
    """The ascending list of all orders that make the shape."""
    need_shape(shape)
    if _many_orders(shape) > MOST_ORDERS:
        raise TooMany(MOST_ORDERS)
    return _all_orders(shape)


def said_in_time(book, words, order):
    """The row that is said when the joinings are done in this order."""
    need_words(book, words)
    if not _is_order(order) or len(order) + 1 != len(words):
        raise NoOrder()
    return row_said(book, words, _shape_made(order))


def looked_at(book, words, shape):
    """For each seam the first and the last place at which its joining looks."""
    need_phrase(book, words, shape)
    found = [(0, 0)] * len(shape)
    for seam, low, _, high in windows(book, lengths_of(words), shape):
        found[seam] = (low, high - 1)
    return found


def history(book, words, shape, place):
    """The list of (seam, sound) of what stands at a place, one joining behind another."""
    need_phrase(book, words, shape)
    lengths = lengths_of(words)
    need_number(place, 0, sum(lengths) - 1)
    row = [sound for word in words for sound in word]
    found = [(None, row[place])]
    for window in windows(book, lengths, shape):
        seam, low, _, high = window
        row[low:high] = new_sounds(book, row, window)
        if low <= place < high:
            found.append((seam, row[place]))
    return found
