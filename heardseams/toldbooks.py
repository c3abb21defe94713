"""Whether brackets matter with a told book, and how many rows can be said."""

from heardseams.checks import need_lengths, need_number
from heardseams.errors import TooMany
from heardseams.formcounts import FormCounts
from heardseams.numbers import LEAST_REACH, MOST_REACH
from heardseams.rows import all_rows, need_few_words, need_words, rows_many
from heardseams.saying import meet, unlike_threes

MOST_THREES = 20000
MOST_WORDS_SAID = 9


def _all_unlike_threes(book):
    """The list of all (x, y, z), none longer than it has to be, that are said unlike."""
    sounds, ahead, behind, reach = book.sounds(), book.ahead(), book.behind(), book.reach()
    if rows_many(sounds, ahead) * rows_many(sounds, reach - 1) * rows_many(sounds, behind) > MOST_THREES:
        raise TooMany(MOST_THREES)
    return unlike_threes(book, all_rows(sounds, ahead), all_rows(sounds, reach - 1), all_rows(sounds, behind))


def _shortest_first(three):
    """What the three rows are ordered by."""
    return len(three[0]) + len(three[1]) + len(three[2]), three


def matters(book):
    """The first three rows that are said unlike as x (y z) and (x y) z, None if there are none."""
    # Longer rows are not needed: no joining looks further into x and z, and
    # in a longer y no sound is looked at from both sides.
    return min(_all_unlike_threes(book), key=_shortest_first, default=None)


def matters_many(book):
    """How many such three rows are said unlike."""
    return len(_all_unlike_threes(book))


def _rows_said(book, words):
    """The list of the unlike rows that the shapes of the words have."""
    many = len(words)
    found = {(at, at + 1): [words[at]] for at in range(many)}
    for width in range(2, many + 1):
        for start in range(many - width + 1):
            end = start + width
            rows = {}
            for middle in range(start + 1, end):
                for one in found[start, middle]:
                    for other in found[middle, end]:
                        rows[meet(book, one, other)] = True
            found[start, end] = list(rows)
    return found[0, many]


def unlike_sayings(book, words):
    """How many unlike rows the shapes of the words have."""
    need_words(book, words)
    need_few_words(words, MOST_WORDS_SAID)
    return len(_rows_said(book, words))


def most_sayings(lengths, reach):
    """How many unlike rows a book of this reach can have at most for words of these lengths."""
    need_lengths(lengths)
    need_number(reach, LEAST_REACH, MOST_REACH)
    return FormCounts(lengths, reach).many()
