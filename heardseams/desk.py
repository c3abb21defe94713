"""A desk, which is told lines and answers them."""

from heardseams.checks import MOST_WORDS
from heardseams.errors import NoLine, NoSeam, NoStep, NoText, NothingDone, NothingKept, OtherWords
from heardseams.forms import class_size, classes_many, form
from heardseams.intime import looked_at
from heardseams.numbers import least_unlike
from heardseams.rows import are_words, lengths_of
from heardseams.saying import row_said
from heardseams.shapes import after_step, is_seam, is_step
from heardseams.texts import digits_of, number_of, phrase_words, read_phrase
from heardseams.toldbooks import unlike_sayings

MOST_FIGURES = 9
# How many numbers stand behind the first word of a line.
NUMBERS = {
    "regroup": 2, "undo": 0, "show": 0, "say": 0, "form": 1, "classes": 1, "size": 1, "sayings": 0, "look": 1,
}
WITH_PHRASE = ("phrase", "number", "alike")


def _phrase_told(book, text):
    """The words and the shape of the phrase whose text it is, if they are words of the book."""
    words, shape = read_phrase(text)
    if not are_words(words, book.sounds(), MOST_WORDS):
        raise NoText()
    return words, shape


def _numbers_told(line):
    """The numbers behind the first word of the line, if they are as many as there have to be."""
    words = line.split(" ")
    if NUMBERS.get(words[0]) != len(words) - 1:
        raise NoLine()
    numbers = [number_of(word, MOST_FIGURES) for word in words[1:]]
    if None in numbers:
        raise NoLine()
    return numbers


def _read_line(book, line):
    """The first word of the line, and the phrase or the list of the numbers behind it."""
    if not isinstance(line, str) or "\n" in line:
        raise NoLine()
    name, blank, rest = line.partition(" ")
    if name in WITH_PHRASE and blank != "":
        return name, _phrase_told(book, rest)
    return name, _numbers_told(line)


# Each of the following answers a line that changes nothing, by the book, the
# words and the shape that are kept, and what stands behind the first word.


def _show(_, words, shape, told):
    """The phrase's text."""
    return phrase_words(words, shape)


def _say(book, words, shape, told):
    """What is said, as digits."""
    return digits_of(row_said(book, words, shape))


def _form(_, words, shape, told):
    """The text of the same words in the form for a number."""
    return phrase_words(words, form(lengths_of(words), shape, told[0]))


def _number(_, words, shape, told):
    """The number of the phrase and of another one."""
    others, other = told
    if lengths_of(others) != lengths_of(words):
        raise OtherWords()
    found = least_unlike(lengths_of(words), shape, other)
    return "same" if found is None else str(found)


def _alike(book, words, shape, told):
    """Whether the phrase and another one are said alike."""
    others, other = told
    return "yes" if row_said(book, words, shape) == row_said(book, others, other) else "no"


def _classes(_, words, shape, told):
    """How many classes the words have for a number."""
    return str(classes_many(lengths_of(words), told[0]))


def _size(_, words, shape, told):
    """How many shapes the class of the shape has."""
    return str(class_size(lengths_of(words), shape, told[0]))


def _sayings(book, words, shape, told):
    """How many unlike rows the words have."""
    return str(unlike_sayings(book, words))


def _look(book, words, shape, told):
    """At which places the joining of a seam looks."""
    if not is_seam(shape, told[0]):
        raise NoSeam()
    first, last = looked_at(book, words, shape)[told[0]]
    return f"{first} {last}"


ANSWERS = {
    "show": _show, "say": _say, "form": _form, "number": _number, "alike": _alike, "classes": _classes,
    "size": _size, "sayings": _sayings, "look": _look,
}


class Desk:
    """A desk for phrases of words of a book."""

    def __init__(self, book):
        self._book = book
        # The phrases that were kept one behind another; the last one is kept
        # now, the others come back when lines are taken back.
        self._kept = []

    def tell(self, line):
        """Does what the line says, and gives the answer to it."""
        name, told = _read_line(self._book, line)
        if name == "phrase":
            return self._keep(told)
        if name == "undo":
            return self._undo()
        if self._kept == []:
            raise NothingKept()
        words, shape = self._kept[-1]
        if name == "regroup":
            return self._regroup(words, shape, told)
        answer = ANSWERS[name]
        return answer(self._book, words, shape, told)

    def undoable(self):
        """How many lines can be taken back."""
        return len(self._kept)

    def _keep(self, phrase):
        """Keeps this phrase in the place of the elder one."""
        self._kept.append(phrase)
        return "ok"

    def _regroup(self, words, shape, pair):
        """Regroups two seams of the phrase that is kept."""
        if not is_step(shape, pair[0], pair[1]):
            raise NoStep()
        return self._keep((words, after_step(shape, pair[0], pair[1])))

    def _undo(self):
        """Takes back the last line that kept a phrase."""
        if self._kept == []:
            raise NothingDone()
        self._kept.pop()
        return "ok"
