"""What is said: the sounds of a phrase behind all its joinings."""

from heardseams.numbers import need_shape_for, spots_of
from heardseams.rows import lengths_of, need_row, need_words
from heardseams.shapes import phrase_of


def _joinings(shape, start, end):
    """The seams from the start on and below the end, in the order of their joinings."""
    if start == end:
        return []
    top = shape.index(min(shape[start:end]), start)
    return _joinings(shape, start, top) + _joinings(shape, top + 1, end) + [top]


def windows(book, lengths, shape):
    """The tuples (seam, low, place, high), in the order of the joinings.

    The joining of the seam, which is at the place, looks at the places from
    low on and below high.
    """
    spots = (0,) + spots_of(lengths) + (sum(lengths),)
    found = []
    for seam in _joinings(shape, 0, len(shape)):
        first, last = phrase_of(shape, seam)
        place = spots[seam + 1]
        low = max(spots[first], place - book.ahead())
        high = min(spots[last + 1], place + book.behind())
        found.append((seam, low, place, high))
    return found


def new_sounds(book, row, window):
    """What becomes of the sounds at which a joining looks."""
    _, low, place, high = window
    left, right = book.becomes(tuple(row[low:place]), tuple(row[place:high]))
    return left + right


def row_said(book, words, shape):
    """The row of sounds that is said, whatever the words' lengths."""
    row = [sound for word in words for sound in word]
    for window in windows(book, lengths_of(words), shape):
        row[window[1]:window[3]] = new_sounds(book, row, window)
    return tuple(row)


def rows_joined(book, words, shape):
    """For each seam the row of its phrase as it is said right when it is joined."""
    lengths = lengths_of(words)
    starts = (0,) + spots_of(lengths) + (sum(lengths),)
    row = [sound for word in words for sound in word]
    found = [()] * len(shape)
    for window in windows(book, lengths, shape):
        row[window[1]:window[3]] = new_sounds(book, row, window)
        first, last = phrase_of(shape, window[0])
        found[window[0]] = tuple(row[starts[first]:starts[last + 1]])
    return found


def meet(book, one, other):
    """Two rows as they are said when they meet."""
    ahead, behind = book.ahead(), book.behind()
    left, right = book.becomes(one[-ahead:], other[:behind])
    return one[:-ahead] + left + right + other[behind:]


def unlike_threes(book, firsts, seconds, thirds):
    """The list of the tuples (x, y, z) of these rows that are said unlike as x (y z) and (x y) z."""
    found = []
    for y in seconds:
        ahead = [(x, meet(book, x, y)) for x in firsts]
        behind = [(z, meet(book, y, z)) for z in thirds]
        for x, xy in ahead:
            for z, yz in behind:
                if meet(book, x, yz) != meet(book, xy, z):
                    found.append((x, y, z))
    return found


def need_phrase(book, words, shape):
    """Checks the words and their shape."""
    need_words(book, words)
    need_shape_for(words, shape)


def said(book, words, shape):
    """The row of sounds that is said when the words are joined so."""
    need_phrase(book, words, shape)
    return row_said(book, words, shape)


def changes(book, words, shape):
    """The list of (seam, place, old, new) of all sounds that become others."""
    need_phrase(book, words, shape)
    row = [sound for word in words for sound in word]
    found = []
    for window in windows(book, lengths_of(words), shape):
        fresh = new_sounds(book, row, window)
        for place, new in enumerate(fresh, start=window[1]):
            if row[place] != new:
                found.append((window[0], place, row[place], new))
                row[place] = new
    return found


def left_alone(book, words, shape):
    """The ascending tuple of the places at which no joining looked."""
    need_phrase(book, words, shape)
    lengths = lengths_of(words)
    looked = set()
    for window in windows(book, lengths, shape):
        for place in range(window[1], window[3]):
            looked.add(place)
    return tuple([place for place in range(sum(lengths)) if place not in looked])


def met(book, one, other):
    """Two rows of sounds as they are said when they meet."""
    need_row(book, one)
    need_row(book, other)
    return meet(book, one, other)
