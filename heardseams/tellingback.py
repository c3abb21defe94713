"""What can be told back of the brackets from the row that was heard."""

from heardseams.forks import grouped
from heardseams.rows import need_few_words, need_row, need_words
from heardseams.saying import meet
from heardseams.shapes import standing, together

MOST_WORDS_HEARD = 9
MOST_WORDS_ASKED = 6


def shapes_with_rows(book, words):
    """The list of (shape, the row that is said) of all shapes of the words, in order."""
    many = len(words)
    found = {(at, at): [((), words[at])] for at in range(many)}
    for width in range(1, many):
        for first in range(many - width):
            last = first + width
            found[first, last] = [
                (together(shape, other), meet(book, row, more))
                for seam in range(first, last)
                for shape, row in found[first, seam]
                for other, more in found[seam + 1, last]
            ]
    return found[0, many - 1]


def _shapes_heard(book, words, row):
    """The list, in order, of all shapes of the words that are said as this row."""
    return [shape for shape, heard in shapes_with_rows(book, words) if heard == row]


def _pairs_of(words):
    """The list of all pairs of seams (p, q), p < q, between the words."""
    return [(p, q) for p in range(len(words) - 1) for q in range(p + 1, len(words) - 1)]


def heard_as(book, words, row):
    """The list, in order, of all shapes of the words that are said as this row."""
    need_words(book, words)
    need_row(book, row)
    need_few_words(words, MOST_WORDS_HEARD)
    return _shapes_heard(book, words, row)


def sayings(book, words):
    """The dict from all rows that are said to how many shapes are said so."""
    need_words(book, words)
    need_few_words(words, MOST_WORDS_HEARD)
    found = {}
    for _, row in shapes_with_rows(book, words):
        found[row] = found.get(row, 0) + 1
    return found


def _standing_in_all(shapes, p, q):
    """How the two seams stand, if it is the same in all of the shapes, otherwise None."""
    first = standing(shapes[0], p, q)
    if all([standing(shape, p, q) == first for shape in shapes]):
        return first
    return None


def surely(book, words, row):
    """The dict from all pairs of seams to how they stand for sure, None if no shape is said so."""
    shapes = heard_as(book, words, row)
    if shapes == []:
        return None
    return {(p, q): _standing_in_all(shapes, p, q) for p, q in _pairs_of(words)}


def _parts_by(answers, group):
    """The parts into which an answer to one question parts the group."""
    return [tuple([group[at] for at in part]) for part in grouped([answers[shape] for shape in group])]


def _are_small(parts, most):
    """Whether none of the parts has more shapes than so many answers can tell apart."""
    # There are three answers to each question.
    room = 1
    for _ in range(most):
        room *= 3
    return all([len(part) <= room for part in parts])


def _do_tell(questions, parts, most, known):
    """Whether so many questions more leave just one of each of the parts."""
    if not _are_small(parts, most):
        return False
    for part in parts:
        if not _can_tell(questions, part, most, known):
            return False
    return True


def _can_tell(questions, group, most, known):
    """Whether so many questions leave just one of the group, whichever it is."""
    if len(group) == 1 or most == 0:
        return len(group) == 1
    if (group, most) not in known:
        known[group, most] = False
        for answers in questions:
            if _do_tell(questions, _parts_by(answers, group), most - 1, known):
                known[group, most] = True
                break
    return known[group, most]


def asks(book, words, row):
    """The fewest standings of seams that have to be told to leave just one shape, None if there is none."""
    need_words(book, words)
    need_row(book, row)
    need_few_words(words, MOST_WORDS_ASKED)
    shapes = _shapes_heard(book, words, row)
    if shapes == []:
        return None
    questions = [[standing(shape, p, q) for shape in shapes] for p, q in _pairs_of(words)]
    group = tuple(range(len(shapes)))
    known = {}
    most = 0
    while not _can_tell(questions, group, most, known):
        most += 1
    return most
