"""Shapes, which tell how words are joined to phrases, and their regroupings.

The functions of the interface check their arguments; the others, which other
files use too, are for shapes and seams that are known to be right.
"""

from math import comb

from heardseams.checks import MOST_WORDS, is_integer, is_within, need_number
from heardseams.errors import NoBallot, NoPart, NoSeam, NoShape, NoStep, TooMany

MOST_WORDS_LISTED = 9


def lessened(depths):
    """The depths of a part, as the shape that it is by itself."""
    return tuple([depth - 1 for depth in depths])


def halves(shape):
    """The shapes ahead of the outermost seam and behind it."""
    top = shape.index(0)
    return lessened(shape[:top]), lessened(shape[top + 1:])


def together(ahead, behind):
    """The shape of two phrases that are joined, however many words it has."""
    return tuple([depth + 1 for depth in ahead] + [0] + [depth + 1 for depth in behind])


def phrase_of(shape, seam):
    """The first and the last word of the phrase that the seam joins."""
    first = seam
    while first > 0 and shape[first - 1] > shape[seam]:
        first -= 1
    last = seam + 1
    while last < len(shape) and shape[last] > shape[seam]:
        last += 1
    return first, last


def standing(shape, one, other):
    """How the first of two unlike seams stands to the second."""
    # The least depth from the one to the other is there only once.
    least = min(shape[min(one, other):max(one, other) + 1])
    if shape[one] == least:
        return "over"
    if shape[other] == least:
        return "under"
    return "neither"


def seam_over(shape, seam):
    """The seam directly over this one, None if this one is outermost."""
    if shape[seam] == 0:
        return None
    first, last = phrase_of(shape, seam)
    if first > 0 and shape[first - 1] == shape[seam] - 1:
        return first - 1
    return last


def steps_of(shape):
    """The ascending list of the regroupings of the shape."""
    pairs = [(seam_over(shape, seam), seam) for seam in range(len(shape))]
    return sorted([pair for pair in pairs if pair[0] is not None])


def is_step(shape, one, other):
    """Whether the two are a regrouping of the shape, whatever they are."""
    if not is_seam(shape, one) or not is_seam(shape, other):
        return False
    return seam_over(shape, other) == one


def after_step(shape, one, other):
    """The shape behind the regrouping of the two seams."""
    first, last = phrase_of(shape, one)
    low, high = min(one, other), max(one, other)
    # The outer part beside the second seam comes out by one joining, the
    # outer part beside the first goes in by one; the inner part stays.
    change = 1 if one < other else -1
    depths = list(shape)
    for seam in range(first, low):
        depths[seam] += change
    for seam in range(high + 1, last):
        depths[seam] -= change
    depths[one] += 1
    depths[other] -= 1
    return tuple(depths)


def is_seam(shape, thing):
    """Whether the thing is the index of a seam of the shape."""
    return is_within(thing, 0, len(shape) - 1)


def need_shape(thing):
    """Raises NoShape unless the thing is a shape of 1 to 40 words."""
    if not is_shape(thing):
        raise NoShape()


def need_seam(shape, thing):
    """Raises NoSeam unless the thing is a seam of the shape."""
    if not is_seam(shape, thing):
        raise NoSeam()


def _is_nested(depths, start, end, depth):
    """Whether these seams make one phrase, whose own joining is this deep."""
    if start == end:
        return True
    tops = [seam for seam in range(start, end) if depths[seam] == depth]
    if len(tops) != 1:
        return False
    top = tops[0]
    return _is_nested(depths, start, top, depth + 1) and _is_nested(depths, top + 1, end, depth + 1)


def is_shape(thing):
    """Whether the thing is a shape of 1 to 40 words."""
    if not isinstance(thing, tuple) or len(thing) >= MOST_WORDS:
        return False
    if not all([is_integer(depth) for depth in thing]):
        return False
    return _is_nested(thing, 0, len(thing), 0)


def _many_with(seams):
    """How many shapes have so many seams: the Catalan number."""
    return comb(2 * seams, seams) // (seams + 1)


def _many_with_top(seams, top):
    """How many shapes of so many seams have this one as the outermost."""
    return _many_with(top) * _many_with(seams - 1 - top)


def _shape_with(seams, number):
    """The shape of so many seams with this index in order."""
    if seams == 0:
        return ()
    top = 0
    while number >= _many_with_top(seams, top):
        number -= _many_with_top(seams, top)
        top += 1
    ahead, behind = divmod(number, _many_with(seams - 1 - top))
    return together(_shape_with(top, ahead), _shape_with(seams - 1 - top, behind))


def _index_of(shape):
    """The index of the shape in order."""
    if shape == ():
        return 0
    ahead, behind = halves(shape)
    before = sum([_many_with_top(len(shape), top) for top in range(len(ahead))])
    return before + _index_of(ahead) * _many_with(len(behind)) + _index_of(behind)


def shapes_many(words):
    """How many shapes of so many words there are."""
    need_number(words, 1, MOST_WORDS)
    return _many_with(words - 1)


def all_shapes(words):
    """The list of all shapes of so many words, in order."""
    need_number(words, 1, MOST_WORDS_LISTED)
    return [_shape_with(words - 1, number) for number in range(_many_with(words - 1))]


def shape_at(words, number):
    """The shape of so many words with this index in order."""
    need_number(words, 1, MOST_WORDS)
    need_number(number, 0, _many_with(words - 1) - 1)
    return _shape_with(words - 1, number)


def shape_number(shape):
    """The index of the shape in order."""
    need_shape(shape)
    return _index_of(shape)


def outermost(shape):
    """The outermost seam, None if there is none."""
    need_shape(shape)
    if shape == ():
        return None
    return shape.index(0)


def joined(shape, seam):
    """The first and the last word of the phrase that the seam joins."""
    need_shape(shape)
    need_seam(shape, seam)
    return phrase_of(shape, seam)


def stands(shape, one, other):
    """Whether the first seam is "over" the second, "under" it or "neither"."""
    need_shape(shape)
    need_seam(shape, one)
    need_seam(shape, other)
    if one == other:
        raise NoSeam()
    return standing(shape, one, other)


def part_of(shape, first, last):
    """The shape of the words from the first to the last, which are a phrase."""
    need_shape(shape)
    if not is_within(first, 0, len(shape)) or not is_within(last, first, len(shape)):
        raise NoPart()
    if first == last:
        return ()
    depths = shape[first:last]
    least = min(depths)
    if phrase_of(shape, first + depths.index(least)) != (first, last):
        raise NoPart()
    return tuple([depth - least for depth in depths])


def joined_shape(one, other):
    """The shape of both phrases, joined."""
    need_shape(one)
    need_shape(other)
    both = together(one, other)
    if len(both) >= MOST_WORDS:
        raise TooMany(MOST_WORDS)
    return both


def turned(shape):
    """The shape of the words in the other order."""
    need_shape(shape)
    return shape[::-1]


def _ballot_of(shape):
    """The ballot of the shape."""
    if shape == ():
        return ()
    ahead, behind = halves(shape)
    return (1,) + _ballot_of(ahead) + (-1,) + _ballot_of(behind)


def _is_ballot(thing):
    """Whether the thing is the ballot of a shape of 1 to 40 words."""
    if not isinstance(thing, tuple) or len(thing) > 2 * (MOST_WORDS - 1):
        return False
    height = 0
    for vote in thing:
        if not is_integer(vote) or vote not in (1, -1):
            return False
        height += vote
        if height < 0:
            return False
    return height == 0


def _shape_of(votes):
    """The shape that has this ballot."""
    if votes == ():
        return ()
    height = 1
    end = 0
    while height > 0:
        end += 1
        height += votes[end]
    return together(_shape_of(votes[1:end]), _shape_of(votes[end + 1:]))


def ballot(shape):
    """The tuple of 1 and -1 that tells the shape as a ballot."""
    need_shape(shape)
    return _ballot_of(shape)


def from_ballot(thing):
    """The shape whose ballot the thing is."""
    if not _is_ballot(thing):
        raise NoBallot()
    return _shape_of(thing)


def regroupings(shape):
    """The ascending list of the pairs of seams, the first directly over the second."""
    need_shape(shape)
    return steps_of(shape)


def regrouped(shape, one, other):
    """The shape behind the regrouping of the two seams."""
    need_shape(shape)
    if not is_step(shape, one, other):
        raise NoStep()
    return after_step(shape, one, other)
