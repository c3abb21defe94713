"""The number of two shapes: how near seams have to be to stand alike in both."""

from heardseams.checks import is_integer, need_lengths, need_number
from heardseams.errors import NoNumber, NoShape
from heardseams.shapes import after_step, is_shape, is_step, standing, steps_of

LEAST_REACH = 2
MOST_REACH = 10 ** 9


def need_shape_for(lengths, thing):
    """Raises NoShape unless the thing is a shape of as many words as lengths."""
    if not is_shape(thing) or len(thing) + 1 != len(lengths):
        raise NoShape()


def need_two_shapes(lengths, one, other):
    """Checks the lengths and two shapes of as many words."""
    need_lengths(lengths)
    need_shape_for(lengths, one)
    need_shape_for(lengths, other)


def spots_of(lengths):
    """The tuple of the places of all seams."""
    spots = []
    sounds = 0
    for length in lengths[:-1]:
        sounds += length
        spots.append(sounds)
    return tuple(spots)


def unlike_pairs(lengths, one, other):
    """The ascending list of the pairs of seams that stand unlike, each behind its distance."""
    spots = spots_of(lengths)
    return sorted([
        (spots[q] - spots[p], p, q)
        for q in range(len(spots))
        for p in range(q)
        if standing(one, p, q) != standing(other, p, q)
    ])


def least_unlike(lengths, one, other):
    """The number of the two shapes, None if they are equal."""
    pairs = unlike_pairs(lengths, one, other)
    if pairs == []:
        return None
    return pairs[0][0]


def _step_to_right(spots, shape, m):
    """A regrouping of a seam over one that is ahead of it by m or more, or None."""
    steps = [(one, other) for one, other in steps_of(shape) if spots[one] - spots[other] >= m]
    # The outermost one is taken because this needs fewer steps in all.
    return min(steps, key=lambda step: shape[step[0]], default=None)


def steps_to_form(lengths, shape, m):
    """Regroupings with middles of m or more, taken until no such one goes to the right.

    They lead all shapes in which the seams nearer than m stand alike to one
    and the same shape.
    """
    spots = spots_of(lengths)
    steps = []
    step = _step_to_right(spots, shape, m)
    while step is not None:
        steps.append(step)
        shape = after_step(shape, step[0], step[1])
        step = _step_to_right(spots, shape, m)
    return steps


def places(lengths):
    """The tuple of the places of all seams."""
    need_lengths(lengths)
    return spots_of(lengths)


def unlike(lengths, one, other):
    """The ascending list of (distance, p, q) of the seams p < q that stand unlike."""
    need_two_shapes(lengths, one, other)
    return unlike_pairs(lengths, one, other)


def number(lengths, one, other):
    """The least distance of two seams that stand unlike, None if the shapes are equal."""
    need_two_shapes(lengths, one, other)
    return least_unlike(lengths, one, other)


def middles(lengths, shape):
    """The ascending list of (distance, one, other) of all regroupings."""
    need_lengths(lengths)
    need_shape_for(lengths, shape)
    spots = spots_of(lengths)
    return sorted([(abs(spots[one] - spots[other]), one, other) for one, other in steps_of(shape)])


def road(lengths, one, other):
    """A road from the one shape to the other whose middles all are at least the number."""
    need_two_shapes(lengths, one, other)
    if one == other:
        return []
    least = least_unlike(lengths, one, other)
    back = steps_to_form(lengths, other, least)
    return steps_to_form(lengths, one, least) + [(under, over) for over, under in back[::-1]]


def _is_list_of_pairs(thing):
    """Whether the thing is a list of pairs of integers."""
    if not isinstance(thing, list):
        return False
    return all([
        isinstance(pair, tuple) and len(pair) == 2 and is_integer(pair[0]) and is_integer(pair[1])
        for pair in thing
    ])


def _fault_of_road(lengths, one, other, most, steps):
    """The first fault of a list of pairs of integers as a road."""
    spots = spots_of(lengths)
    shape = one
    for at, (over, under) in enumerate(steps):
        if not is_step(shape, over, under):
            return "step", at
        if abs(spots[over] - spots[under]) < most:
            return "middle", at
        shape = after_step(shape, over, under)
    if shape != other:
        return ("end",)
    return None


def road_fault(lengths, one, other, most, thing):
    """The first fault of the thing as a road whose middles are at least the most, or None."""
    need_two_shapes(lengths, one, other)
    if not is_integer(most) or most < 0:
        raise NoNumber()
    if not _is_list_of_pairs(thing):
        return ("form",)
    return _fault_of_road(lengths, one, other, most, thing)


def alike_in_all(lengths, one, other, reach):
    """Whether every book of this reach says both shapes alike."""
    need_two_shapes(lengths, one, other)
    need_number(reach, LEAST_REACH, MOST_REACH)
    return one == other or reach <= least_unlike(lengths, one, other)
