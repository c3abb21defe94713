"""Classes of shapes in which near seams stand alike, their forms and their sizes."""

from heardseams.checks import MOST_WORDS, need_lengths, need_number
from heardseams.errors import NoLeaning, TooMany
from heardseams.formcounts import FormCounts
from heardseams.numbers import need_shape_for, need_two_shapes, spots_of, unlike_pairs
from heardseams.rooms import form_of, left_form_of, room_of, rooms_of, shapes_of, size_of
from heardseams.shapes import phrase_of, shape_number, steps_of

MOST_M = 10 ** 9
MOST_LISTED = 2000


def need_m(thing):
    """Raises NoNumber unless the thing is a number for which there are classes."""
    need_number(thing, 1, MOST_M)


def need_class(lengths, shape, m):
    """Checks the lengths, a shape of as many words, and the number m."""
    need_lengths(lengths)
    need_shape_for(lengths, shape)
    need_m(m)


def form(lengths, shape, m):
    """The form of the class of the shape."""
    need_class(lengths, shape, m)
    return form_of(rooms_of(lengths, shape, m))


def same_class(lengths, one, other, m):
    """Whether all seams nearer than m stand alike in the two shapes."""
    need_two_shapes(lengths, one, other)
    need_m(m)
    return rooms_of(lengths, one, m) == rooms_of(lengths, other, m)


def is_form(lengths, shape, m):
    """Whether no seam is directly over one ahead of it from which its distance is m or more."""
    need_class(lengths, shape, m)
    spots = spots_of(lengths)
    return all([spots[over] - spots[under] < m for over, under in steps_of(shape)])


def classes_many(lengths, m):
    """How many classes there are."""
    need_lengths(lengths)
    need_m(m)
    return FormCounts(lengths, m).many()


def form_at(lengths, m, number):
    """The form with this index, the forms being in order."""
    need_lengths(lengths)
    need_m(m)
    counts = FormCounts(lengths, m)
    need_number(number, 0, counts.many() - 1)
    return counts.form_at(number)


def form_number(lengths, shape, m):
    """The index of the form of the class of the shape."""
    need_class(lengths, shape, m)
    return FormCounts(lengths, m).index_of(form_of(rooms_of(lengths, shape, m)))


def class_size(lengths, shape, m):
    """How many shapes the class of the shape has."""
    need_class(lengths, shape, m)
    return size_of(rooms_of(lengths, shape, m))


def _few_shapes_of(rooms):
    """The list of all shapes of the class, in order, if there are not too many."""
    if size_of(rooms) > MOST_LISTED:
        raise TooMany(MOST_LISTED)
    return shapes_of(rooms)


def class_of(lengths, shape, m):
    """The list of all shapes of the class of the shape, in order."""
    need_class(lengths, shape, m)
    return _few_shapes_of(rooms_of(lengths, shape, m))


def left_form(lengths, shape, m):
    """The shape of the class in which no seam is directly over one m or more behind it."""
    need_class(lengths, shape, m)
    return left_form_of(rooms_of(lengths, shape, m))


def _rooms_behind(spots, shape, over, under, m):
    """The two seams of a regrouping, each with its room behind it."""
    first, last = phrase_of(shape, over)
    if over < under:
        return (over, room_of(spots, over, first, under, m)), (under, room_of(spots, under, first, last, m))
    return (over, room_of(spots, over, under + 1, last, m)), (under, room_of(spots, under, first, last, m))


def _rooms_with(rooms, changed):
    """The rooms, some seams having others."""
    fresh = list(rooms)
    for seam, room in changed:
        fresh[seam] = room
    return tuple(fresh)


def neighbours(lengths, shape, m):
    """The list, in order, of the forms of the other classes that are one regrouping away."""
    need_class(lengths, shape, m)
    spots = spots_of(lengths)
    rooms = rooms_of(lengths, shape, m)
    # A regrouping changes the phrases, hence the rooms, of its two seams
    # alone, so that many regroupings of many shapes lead to one class.
    found = {}
    for member in _few_shapes_of(rooms):
        for over, under in steps_of(member):
            if abs(spots[over] - spots[under]) < m:
                found[_rooms_behind(spots, member, over, under, m)] = True
    return sorted([form_of(_rooms_with(rooms, changed)) for changed in found], key=shape_number)


def _is_leaning(thing):
    """Whether the thing tells for each inner word of some words to which side it leans."""
    if not isinstance(thing, tuple) or len(thing) > MOST_WORDS - 2:
        return False
    return all([isinstance(side, str) and side in ("left", "right") for side in thing])


def leaning_size(leaning):
    """How many shapes have the leaning as their first_joined."""
    if not _is_leaning(leaning):
        raise NoLeaning()
    seams = len(leaning) + 1
    # The seams on both sides of an inner word cannot hold each other in their
    # rooms both: the one that is under the other ends, or begins, there.
    starts = [0] + [seam + 1 if side == "right" else 0 for seam, side in enumerate(leaning)]
    ends = [seam + 1 if side == "left" else seams for seam, side in enumerate(leaning)] + [seams]
    return size_of([(starts[seam], ends[seam]) for seam in range(seams)])


def _all_forms(lengths, m):
    """The list of all forms, in order, if there are not too many."""
    counts = FormCounts(lengths, m)
    if counts.many() > MOST_LISTED:
        raise TooMany(MOST_LISTED)
    return [counts.form_at(number) for number in range(counts.many())]


def class_sizes(lengths, m):
    """The list of the sizes of all classes, by their forms in order."""
    need_lengths(lengths)
    need_m(m)
    return [size_of(rooms_of(lengths, shape, m)) for shape in _all_forms(lengths, m)]


def greatest_class(lengths, m):
    """The greatest size of a class and the first form of a class of this size."""
    sizes = class_sizes(lengths, m)
    greatest = max(sizes)
    return greatest, form_at(lengths, m, sizes.index(greatest))


def unlike_near(lengths, one, other, m):
    """The ascending list of the pairs of seams nearer than m that stand unlike."""
    need_two_shapes(lengths, one, other)
    need_m(m)
    return sorted([(p, q) for distance, p, q in unlike_pairs(lengths, one, other) if distance < m])


def first_joined(lengths, shape):
    """For each inner word the side of the seam that joins it first."""
    need_lengths(lengths)
    need_shape_for(lengths, shape)
    return tuple(["left" if shape[seam] > shape[seam + 1] else "right" for seam in range(len(shape) - 1)])
