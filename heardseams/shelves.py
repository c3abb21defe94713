"""Books compared: by words, by the phrases of a list, by their numbers; and many shapes at once."""

from heardseams.books import Book
from heardseams.checks import MOST_WORDS, need_lengths, need_number
from heardseams.errors import OtherBook, TooMany
from heardseams.forks import forks, marks_below, need_shapes
from heardseams.gathering import Gathering, need_list
from heardseams.rows import lengths_of, need_few_words, need_words
from heardseams.tellingback import MOST_WORDS_HEARD, shapes_with_rows
from heardseams.toldbooks import most_sayings, unlike_sayings

MOST_BOOK_NUMBER = 255


def _need_book_with(sounds, thing):
    """Raises OtherBook unless the thing is a book of so many sounds."""
    if not isinstance(thing, Book) or thing.sounds() != sounds:
        raise OtherBook()


def parted_by(book, other, words):
    """The first shape of the words that the two books say unlike, None if there is none."""
    _need_book_with(book.sounds(), other)
    need_words(book, words)
    need_few_words(words, MOST_WORDS_HEARD)
    for (shape, row), (_, more) in zip(shapes_with_rows(book, words), shapes_with_rows(other, words)):
        if row != more:
            return shape
    return None


def same_for(book, other, words):
    """A phrase of as few of the words as can be that the two books say unlike, None if there is none."""
    _need_book_with(book.sounds(), other)
    need_list(book, words)
    # A phrase with as few words as can be is made of two that both say alike.
    gathering = Gathering([book, other], words)
    if gathering.unlike is None:
        return None
    ahead, behind = gathering.unlike
    if gathering.words_needed(ahead) + gathering.words_needed(behind) > MOST_WORDS:
        raise TooMany(MOST_WORDS)
    return gathering.phrase_joined(ahead, behind)


def hears_all(book, words):
    """Whether the shapes of the words have as many unlike rows as there are classes for the reach."""
    return unlike_sayings(book, words) == most_sayings(lengths_of(words), book.reach())


def _pairs_of_sounds():
    """The list of (left, right, how far its figure stands from the end, in bits) of a book of two sounds."""
    return [(left, right, 2 * (2 * left + right)) for left in (0, 1) for right in (0, 1)]


def book_at(number):
    """The book of two sounds, looking at one on each side, with this number."""
    need_number(number, 0, MOST_BOOK_NUMBER)
    table = {}
    for left, right, shift in _pairs_of_sounds():
        new_left, new_right = divmod((number >> shift) & 3, 2)
        table[(left,), (right,)] = ((new_left,), (new_right,))
    return Book(2, 1, 1, table)


def number_of_book(book):
    """The number of a book of two sounds that looks at one on each side, None of another book."""
    if (book.sounds(), book.ahead(), book.behind()) != (2, 1, 1):
        return None
    number = 0
    for left, right, shift in _pairs_of_sounds():
        new_left, new_right = book.becomes((left,), (right,))
        number += (2 * new_left[0] + new_right[0]) << shift
    return number


def _number_by(levels, one, other):
    """The distance at which the marks of these two shapes come apart, None if they never do."""
    for distance, marks in levels:
        if marks[one] != marks[other]:
            return distance
    return None


def numbers_of(lengths, shapes):
    """The list, for each of the shapes, of the list of the numbers of it and each of them."""
    need_lengths(lengths)
    need_shapes(lengths, shapes)
    # No two seams are as far from each other as the words are long in all.
    levels = marks_below(lengths, shapes, sum(lengths))
    return [[_number_by(levels, one, other) for other in range(len(shapes))] for one in range(len(shapes))]


def least_reach(lengths, shapes):
    """The least reach with which some book parts each two unlike ones of the shapes, None if all are equal."""
    found = forks(lengths, shapes)
    if found == []:
        return None
    return found[-1] + 1
