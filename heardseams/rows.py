"""Rows of sounds and words: what they are, and all rows up to a length."""

from heardseams.checks import MOST_WORDS, is_within
from heardseams.errors import NoRow, NoWords, TooMany

MOST_IN_WORD = 200
MOST_IN_ROW = 4000


def is_sound(thing, sounds):
    """Whether the thing is one of so many sounds."""
    return is_within(thing, 0, sounds - 1)


def is_row(thing, sounds, most):
    """Whether the thing is a tuple of 1 to so many sounds."""
    if not isinstance(thing, tuple) or not 1 <= len(thing) <= most:
        return False
    return all([is_sound(sound, sounds) for sound in thing])


def are_words(thing, sounds, most):
    """Whether the thing is a tuple of 1 to so many words."""
    if not isinstance(thing, tuple) or not 1 <= len(thing) <= most:
        return False
    return all([is_row(word, sounds, MOST_IN_WORD) for word in thing])


def need_words(book, thing):
    """Raises NoWords unless the thing is a tuple of 1 to 40 words of the book."""
    if not are_words(thing, book.sounds(), MOST_WORDS):
        raise NoWords()


def need_row(book, thing):
    """Raises NoRow unless the thing is a row of 1 to 4000 sounds of the book."""
    if not is_row(thing, book.sounds(), MOST_IN_ROW):
        raise NoRow()


def need_word(book, thing):
    """Raises NoWords unless the thing is a word of the book."""
    if not is_row(thing, book.sounds(), MOST_IN_WORD):
        raise NoWords()


def need_few_words(words, most):
    """Raises TooMany if there are more than so many words."""
    if len(words) > most:
        raise TooMany(most)


def lengths_of(words):
    """How many sounds each word has."""
    return tuple([len(word) for word in words])


def rows_many(sounds, most):
    """How many rows of 1 to so many sounds there are."""
    many = 0
    for _ in range(most):
        many = (many + 1) * sounds
    return many


def all_rows(sounds, most):
    """The list of all rows of 1 to so many sounds, the shorter ones first."""
    found = []
    last = [()]
    for _ in range(most):
        last = [row + (sound,) for row in last for sound in range(sounds)]
        found.extend(last)
    return found
