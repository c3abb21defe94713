"""How near seams stand, and where shapes part as seams further away are looked at."""

from heardseams.checks import need_lengths
from heardseams.errors import NoShapes, NoTable
from heardseams.forms import need_class, need_m
from heardseams.numbers import spots_of
from heardseams.rooms import form_of
from heardseams.shapes import is_shape, standing

MOST_SHAPES = 200
STANDINGS = ("over", "under", "neither")


def _pairs_by_distance(lengths):
    """The ascending list of (distance, p, q) of all pairs of seams p < q."""
    spots = spots_of(lengths)
    return sorted([(spots[q] - spots[p], p, q) for q in range(len(spots)) for p in range(q)])


def _near_pairs(lengths, m):
    """The list of all pairs (p, q) of seams, p < q, nearer than m."""
    return [(p, q) for distance, p, q in _pairs_by_distance(lengths) if distance < m]


def _near_in(shape, pairs):
    """The dict from the pairs of seams to how they stand."""
    return {(p, q): standing(shape, p, q) for p, q in pairs}


def near(lengths, shape, m):
    """The dict from all pairs (p, q) of seams, p < q, nearer than m, to how they stand."""
    need_class(lengths, shape, m)
    return _near_in(shape, _near_pairs(lengths, m))


def _is_near_table(thing, pairs):
    """Whether the thing is a dict from just these pairs to standings."""
    if not isinstance(thing, dict) or len(thing) != len(pairs):
        return False
    if not all([pair in thing for pair in pairs]):
        return False
    return all([isinstance(thing[pair], str) and thing[pair] in STANDINGS for pair in pairs])


def _rooms_told(lengths, pairs, table):
    """The rooms that seams have if the near ones stand as the table tells."""
    starts = [0] * (len(lengths) - 1)
    ends = [len(lengths) - 1] * (len(lengths) - 1)
    for p, q in pairs:
        if table[p, q] != "over":
            ends[p] = min(ends[p], q)
        if table[p, q] != "under":
            starts[q] = max(starts[q], p + 1)
    return [(starts[seam], ends[seam]) for seam in range(len(starts))]


def shape_of(lengths, m, table):
    """The form of the class whose shapes have this dict as near, None if none has."""
    need_lengths(lengths)
    need_m(m)
    pairs = _near_pairs(lengths, m)
    if not _is_near_table(table, pairs):
        raise NoTable()
    found = form_of(_rooms_told(lengths, pairs, table))
    if found is None or _near_in(found, pairs) != table:
        return None
    return found


def need_shapes(lengths, thing):
    """Raises NoShapes unless the thing is a list of 1 to 200 shapes of as many words."""
    if not isinstance(thing, list) or not 1 <= len(thing) <= MOST_SHAPES:
        raise NoShapes()
    if not all([is_shape(shape) and len(shape) + 1 == len(lengths) for shape in thing]):
        raise NoShapes()


def grouped(marks):
    """The list of the tuples of the indexes of equal marks, by their first index."""
    found = {}
    for at, mark in enumerate(marks):
        found.setdefault(mark, []).append(at)
    return [tuple(found[mark]) for mark in found]


def _finer(marks, shapes, pairs):
    """New marks: alike where the old ones are and these pairs of seams stand alike."""
    numbers = {}
    fresh = []
    for mark, shape in zip(marks, shapes):
        key = (mark,) + tuple([standing(shape, p, q) for p, q in pairs])
        fresh.append(numbers.setdefault(key, len(numbers)))
    return fresh


def marks_below(lengths, shapes, m):
    """The list of (distance, marks), from (0, marks that are all alike) on.

    Shapes have the same mark if all seams up to this distance stand alike in
    them. There are only those distances below m at which marks come apart.
    """
    pairs_at = {}
    for distance, p, q in _pairs_by_distance(lengths):
        pairs_at.setdefault(distance, []).append((p, q))
    marks = [0] * len(shapes)
    found = [(0, marks)]
    for distance in pairs_at:
        if distance < m:
            finer = _finer(marks, shapes, pairs_at[distance])
            if max(finer) > max(marks):
                found.append((distance, finer))
            marks = finer
    return found


def groups(lengths, shapes, m):
    """The list of the tuples of the indexes of the shapes that are in one class."""
    need_lengths(lengths)
    need_shapes(lengths, shapes)
    need_m(m)
    return grouped(marks_below(lengths, shapes, m)[-1][1])


def forks(lengths, shapes):
    """The ascending list of all numbers that two of the shapes have."""
    need_lengths(lengths)
    need_shapes(lengths, shapes)
    # No two seams are as far from each other as the words are long in all.
    return [distance for distance, _ in marks_below(lengths, shapes, sum(lengths))[1:]]


def same_tongue(lengths, shapes, m):
    """The groups for 1 and behind each of the forks, as far as that is at most m."""
    need_lengths(lengths)
    need_shapes(lengths, shapes)
    need_m(m)
    return [grouped(marks) for _, marks in marks_below(lengths, shapes, m)]
