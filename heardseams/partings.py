"""Books that part two shapes, which shapes a book says alike, and pauses."""

from heardseams.books import MOST_LOOKED, from_rules
from heardseams.checks import need_lengths, need_number
from heardseams.errors import TooLong, TooMany
from heardseams.forks import grouped, need_shapes
from heardseams.numbers import least_unlike, need_shape_for, need_two_shapes, spots_of
from heardseams.saying import row_said
from heardseams.shapes import phrase_of

MOST_BOOK_REACH = 8
MOST_SAID = 4000
MOST_CAP = 10 ** 9


def _book_of_the_last(ahead, behind):
    """The book that puts 1 at the first place it looks at and 0 at the last one.

    It does so on each side by itself, where the phrase is long enough to look
    as far as that. So a sound between two seams that are as far from each
    other as the reach, less one, tells which of the two was joined last; and
    no other joining changes it.
    """
    both = (0, 1)
    lefts, rights = (both,) * ahead, (both,) * behind
    one_first = (1,) + (None,) * (ahead - 1)
    zero_last = (None,) * (behind - 1) + (0,)
    return from_rules(2, ahead, behind, (
        (lefts, rights, one_first, zero_last),
        (lefts, (both,), one_first, (None,)),
        ((both,), rights, (None,), zero_last),
    ))


def parting(lengths, one, other):
    """A book with the number plus 1 as its reach that says both shapes unlike, None if they are equal."""
    need_two_shapes(lengths, one, other)
    if one == other:
        return None
    # The two seams that are nearest of those that stand unlike are over and
    # under each other, and all seams between them are under both: the words
    # between them are one phrase when the first of the two is joined.
    least = least_unlike(lengths, one, other)
    if least >= MOST_BOOK_REACH:
        raise TooLong(MOST_BOOK_REACH)
    ahead = min(least, MOST_LOOKED)
    return _book_of_the_last(ahead, least + 1 - ahead)


def _need_few_sounds(lengths):
    """Raises TooMany if the words have more than 4000 sounds in all."""
    if sum(lengths) > MOST_SAID:
        raise TooMany(MOST_SAID)


def _words_of_zeros(lengths):
    """The words of these lengths whose sounds are all 0."""
    return tuple([(0,) * length for length in lengths])


def parts_them(book, lengths, one, other):
    """Whether the book says both shapes unlike, all sounds of the words being 0."""
    need_two_shapes(lengths, one, other)
    _need_few_sounds(lengths)
    words = _words_of_zeros(lengths)
    return row_said(book, words, one) != row_said(book, words, other)


def heard_groups(book, lengths, shapes):
    """The list of the tuples of the indexes of the shapes that the book says alike."""
    need_lengths(lengths)
    need_shapes(lengths, shapes)
    _need_few_sounds(lengths)
    words = _words_of_zeros(lengths)
    return grouped([row_said(book, words, shape) for shape in shapes])


def pauses(lengths, shape, cap):
    """For each seam the sizes of the two phrases that meet there, each cut to the cap."""
    need_lengths(lengths)
    need_shape_for(lengths, shape)
    need_number(cap, 1, MOST_CAP)
    spots = (0,) + spots_of(lengths) + (sum(lengths),)
    found = []
    for seam in range(len(shape)):
        first, last = phrase_of(shape, seam)
        place = spots[seam + 1]
        found.append((min(cap, place - spots[first]), min(cap, spots[last + 1] - place)))
    return found
