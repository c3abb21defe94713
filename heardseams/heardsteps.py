"""The fewest regroupings from shape to shape, and the fewest that are heard."""

from heardseams.checks import is_integer
from heardseams.errors import NoNumber, NoShape, TooMany
from heardseams.forms import need_m
from heardseams.numbers import need_two_shapes, spots_of
from heardseams.shapes import after_step, is_shape, need_shape, phrase_of, steps_of

MOST_WORDS_WALKED = 7


def _need_two_alike(one, other):
    """Raises NoShape unless both are shapes, the second of as many words as the first."""
    need_shape(one)
    if not is_shape(other) or len(other) != len(one):
        raise NoShape()


def _need_few_words(shape):
    """Raises TooMany if there are more words than those whose shapes are all looked through."""
    if len(shape) + 1 > MOST_WORDS_WALKED:
        raise TooMany(MOST_WORDS_WALKED)


def _ways_from(spots, shape):
    """The list of (middle, regrouping, shape behind it) of all regroupings of the shape."""
    return [
        (abs(spots[one] - spots[other]), (one, other), after_step(shape, one, other))
        for one, other in steps_of(shape)
    ]


def _add_unheard(spots, layer, reached, m):
    """Adds to the layer what can be reached from it without a heard regrouping."""
    waiting = list(layer)
    while waiting != []:
        shape = waiting.pop()
        for middle, _, behind in _ways_from(spots, shape):
            if middle >= m and behind not in reached:
                reached[behind] = True
                layer.append(behind)
                waiting.append(behind)


def _fewest_heard(spots, one, other, m):
    """The fewest regroupings with middles below m of any road from the one shape to the other."""
    reached = {one: True}
    layer = [one]
    many = 0
    _add_unheard(spots, layer, reached, m)
    while other not in reached:
        fresh = []
        for shape in layer:
            for middle, _, behind in _ways_from(spots, shape):
                if middle < m and behind not in reached:
                    reached[behind] = True
                    fresh.append(behind)
        _add_unheard(spots, fresh, reached, m)
        layer = fresh
        many += 1
    return many


def steps(one, other):
    """The fewest regroupings that lead from the one shape to the other."""
    _need_two_alike(one, other)
    _need_few_words(one)
    # With words of one sound and so great an m all regroupings are heard.
    return _fewest_heard(tuple(range(len(one))), one, other, MOST_WORDS_WALKED)


def heard_steps(lengths, one, other, m):
    """The fewest heard regroupings of any road from the one shape to the other."""
    need_two_shapes(lengths, one, other)
    need_m(m)
    _need_few_words(one)
    return _fewest_heard(spots_of(lengths), one, other, m)


def _came_from(spots, one, most):
    """A dict from each shape that is reached to the shape and the regrouping ahead of it."""
    came = {one: None}
    layer = [one]
    while layer != []:
        fresh = []
        for shape in layer:
            for middle, step, behind in _ways_from(spots, shape):
                if middle >= most and behind not in came:
                    came[behind] = (shape, step)
                    fresh.append(behind)
        layer = fresh
    return came


def least_road(lengths, one, other, most):
    """A road with as few regroupings as can be whose middles are at least the most, or None."""
    need_two_shapes(lengths, one, other)
    if not is_integer(most) or most < 0:
        raise NoNumber()
    _need_few_words(one)
    came = _came_from(spots_of(lengths), one, most)
    if other not in came:
        return None
    back = []
    shape = other
    while came[shape] is not None:
        shape, step = came[shape]
        back.append(step)
    return back[::-1]


def to_the_right(one, other):
    """Whether regroupings from ((A B) C) to (A (B C)) alone lead from the one shape to the other."""
    _need_two_alike(one, other)
    # Each such regrouping lets the phrase behind one seam end further to the
    # right and leaves the ends of all others; and where no end has to go back
    # there is a way.
    return all([phrase_of(one, seam)[1] <= phrase_of(other, seam)[1] for seam in range(len(one))])
