"""Rooms of seams, which tell a class of shapes.

The ROOM of a seam, for a class, is the widest row of seams among which it can
be outermost: one that holds, of the seams near it, those that it is over and
no others. It is told by its first seam and the one behind its last. As it
hangs on nothing but how near seams stand, all shapes of a class have the same
rooms, and other classes have others.

Each shape of the class comes about once when, in all seams, then in the parts
ahead and behind, and so on, a seam is taken as outermost whose room holds the
whole part: seams that are near it stand as they have to, and how those within
one of the two parts stand is settled there.
"""

from heardseams.numbers import spots_of
from heardseams.shapes import phrase_of, together


def room_of(spots, seam, first, last, m):
    """The room of the seam that joins the words from the first to the last."""
    start, end = 0, len(spots)
    if first > 0 and spots[seam] - spots[first - 1] < m:
        start = first
    if last < len(spots) and spots[last] - spots[seam] < m:
        end = last
    return start, end


def rooms_of(lengths, shape, m):
    """The tuple of the rooms of all seams, for the class of the shape."""
    spots = spots_of(lengths)
    found = []
    for seam in range(len(shape)):
        first, last = phrase_of(shape, seam)
        found.append(room_of(spots, seam, first, last, m))
    return tuple(found)


def tops_of(rooms, start, end):
    """The ascending list of the seams that can be outermost among these."""
    return [top for top in range(start, end) if rooms[top][0] <= start and end <= rooms[top][1]]


def _shape_by(rooms, which):
    """The shape in which the outermost seam of each part is this one of those that can be."""
    depths = [0] * len(rooms)
    parts = [(0, len(rooms), 0)]
    while parts != []:
        start, end, depth = parts.pop()
        if start == end:
            continue
        tops = tops_of(rooms, start, end)
        if tops == []:
            return None
        top = tops[which]
        depths[top] = depth
        parts.append((start, top, depth + 1))
        parts.append((top + 1, end, depth + 1))
    return tuple(depths)


# Two seams that can both be outermost are far from each other. If the first
# one is taken, none that is left ahead of it could stand directly under it
# and be far from it, for then that one could have been taken too.


def form_of(rooms):
    """The form of the class with these rooms, None if no shape has them."""
    return _shape_by(rooms, 0)


def left_form_of(rooms):
    """The shape of the class in which no seam is directly over one far behind it."""
    return _shape_by(rooms, -1)


def size_of(rooms):
    """How many shapes the class has."""
    seams = len(rooms)
    # many[start][end]: how many ways there are to join the seams from start
    # on and below end; by_end holds the same numbers, by their ends.
    many = [[1] * (seams + 1) for _ in range(seams + 1)]
    by_end = [[1] * (seams + 1) for _ in range(seams + 1)]
    for start in range(seams - 1, -1, -1):
        row = many[start]
        tops = [top for top in range(start, seams) if rooms[top][0] <= start]
        for end in range(start + 1, seams + 1):
            column = by_end[end]
            row[end] = sum([row[top] * column[top + 1] for top in tops if top < end <= rooms[top][1]])
            column[start] = row[end]
    return many[0][seams]


def shapes_of(rooms):
    """The list of all shapes of the class, in order."""
    seams = len(rooms)
    found = {(start, start): [()] for start in range(seams + 1)}
    for start, end in _parts_needed(rooms):
        found[start, end] = [
            together(ahead, behind)
            for top in tops_of(rooms, start, end)
            for ahead in found[start, top]
            for behind in found[top + 1, end]
        ]
    return found[0, seams]


def _parts_needed(rooms):
    """The parts, longer ones last, that the shapes of the class have; none of them is empty."""
    # Other parts may be joined in many more ways than there are shapes.
    needed = {(0, len(rooms)): True}
    for width in range(len(rooms), 0, -1):
        parts = [part for part in needed if part[1] - part[0] == width]
        for start, end in parts:
            for top in tops_of(rooms, start, end):
                needed[start, top] = True
                needed[top + 1, end] = True
    return sorted([part for part in needed if part[0] < part[1]], key=lambda part: part[1] - part[0])
