"""A phrase that changes, and whose changes can be taken back."""

from heardseams.checks import MOST_WORDS, is_within
from heardseams.errors import NoSide, NoSpot, NoStep, NothingLeft, TooMany
from heardseams.rows import need_word
from heardseams.saying import need_phrase, row_said, rows_joined
from heardseams.shapes import after_step, is_seam, is_step, phrase_of


def _need_spot(words, thing):
    """Raises NoSpot unless there is a word at this place."""
    if not is_within(thing, 0, len(words) - 1):
        raise NoSpot()


def _need_side(thing):
    """Raises NoSide unless the thing is "left" or "right"."""
    if not isinstance(thing, str) or thing not in ("left", "right"):
        raise NoSide()


def _first_seam(shape, at):
    """The seam that joins the word at this place first of all, None if there is none."""
    beside = [seam for seam in (at - 1, at) if is_seam(shape, seam)]
    return max(beside, key=lambda seam: shape[seam], default=None)


def _shape_with(shape, at):
    """The shape in which the word at this place has become a phrase of two; their seam is at this place."""
    over = _first_seam(shape, at)
    depth = 0 if over is None else shape[over] + 1
    return shape[:at] + (depth,) + shape[at:]


def _shape_without(shape, fallen):
    """The shape without this seam, what it joined being joined no more."""
    first, last = phrase_of(shape, fallen)
    return tuple([
        depth - 1 if first <= seam < last else depth
        for seam, depth in enumerate(shape) if seam != fallen
    ])


class Live:
    """A phrase of words of a book, which can be changed."""

    def __init__(self, book, words, shape):
        need_phrase(book, words, shape)
        self._book = book
        # The words, the shape and what was looked at, behind each change that
        # is not taken back.
        self._states = [(words, shape, 0)]

    def words(self):
        """The words as they are now."""
        return self._states[-1][0]

    def shape(self):
        """The shape as it is now."""
        return self._states[-1][1]

    def said(self):
        """The row that is said now."""
        return row_said(self._book, self.words(), self.shape())

    def looked(self):
        """How many seams are new or join what is said otherwise than ahead of the last change."""
        return self._states[-1][2]

    def _rows(self):
        """For each seam the row of its phrase as it is now."""
        return rows_joined(self._book, self.words(), self.shape())

    def _change(self, words, shape, rows):
        """Makes the change; the rows are those of the seams ahead of it, None for a seam that is new."""
        fresh = rows_joined(self._book, words, shape)
        looked = len([seam for seam in range(len(shape)) if rows[seam] != fresh[seam]])
        self._states.append((words, shape, looked))

    def exchange(self, at, word):
        """Puts another word in the place of this one."""
        words = self.words()
        _need_spot(words, at)
        need_word(self._book, word)
        self._change(words[:at] + (word,) + words[at + 1:], self.shape(), self._rows())

    def regroup(self, one, other):
        """Regroups two seams, the first being directly over the second."""
        shape = self.shape()
        if not is_step(shape, one, other):
            raise NoStep()
        self._change(self.words(), after_step(shape, one, other), self._rows())

    def put(self, at, word, side):
        """Puts a word more to the left or to the right of this one, joined to it first of all."""
        words = self.words()
        _need_spot(words, at)
        need_word(self._book, word)
        _need_side(side)
        if len(words) == MOST_WORDS:
            raise TooMany(MOST_WORDS)
        cut = at if side == "left" else at + 1
        rows = self._rows()
        self._change(words[:cut] + (word,) + words[cut:], _shape_with(self.shape(), at), rows[:at] + [None] + rows[at:])

    def take(self, at):
        """Takes a word out; what it was joined to stands in the place of both."""
        words, shape = self.words(), self.shape()
        _need_spot(words, at)
        if len(words) == 1:
            raise NothingLeft()
        fallen = _first_seam(shape, at)
        rows = self._rows()
        self._change(words[:at] + words[at + 1:], _shape_without(shape, fallen), rows[:fallen] + rows[fallen + 1:])

    def back(self):
        """Takes back the last change; whether there was one."""
        if len(self._states) == 1:
            return False
        self._states.pop()
        return True
