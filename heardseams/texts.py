"""Texts of phrases, of shapes and of books.

What a text says is read without much care; then it is the right one exactly
if what was read has this text.
"""

from heardseams.books import Book
from heardseams.checks import MOST_LENGTH, MOST_WORDS, are_lengths, need_lengths
from heardseams.errors import NoBook, NoText, NoWords
from heardseams.numbers import need_shape_for
from heardseams.rows import are_words
from heardseams.shapes import halves, is_shape

FIGURES = "0123456789"
MOST_SOUNDS_TOLD = 8


def number_of(text, most):
    """The number that is written so, with at most so many figures and no zeros ahead, or None."""
    if not 1 <= len(text) <= most or (text[0] == "0" and text != "0"):
        return None
    if not all([sign in FIGURES for sign in text]):
        return None
    return int(text)


def digits_of(row):
    """The sounds of the row as digits."""
    return "".join([str(sound) for sound in row])


def _row_of(digits):
    """The sounds that are written so; there is -1 for a sign that is no figure."""
    return tuple([FIGURES.find(sign) for sign in digits])


def _bracketed(leaves, shape):
    """The text with these texts in the place of the words."""
    if shape == ():
        return leaves[0]
    ahead, behind = halves(shape)
    cut = len(ahead) + 1
    return "(" + _bracketed(leaves[:cut], ahead) + " " + _bracketed(leaves[cut:], behind) + ")"


def _parts_of(text):
    """What stands in the place of the words, and how many brackets are around each blank, less one."""
    depths = []
    depth = -1
    for sign in text:
        if sign == "(":
            depth += 1
        elif sign == ")":
            depth -= 1
        elif sign == " ":
            depths.append(depth)
    return text.replace("(", "").replace(")", "").split(" "), tuple(depths)


def _read(text):
    """The texts in the place of the words, and the shape."""
    if not isinstance(text, str):
        raise NoText()
    leaves, shape = _parts_of(text)
    if not is_shape(shape) or _bracketed(leaves, shape) != text:
        raise NoText()
    return leaves, shape


def phrase_words(words, shape):
    """The text of a phrase that is known to be right."""
    return _bracketed([digits_of(word) for word in words], shape)


def phrase_text(words, shape):
    """The text of the phrase."""
    if not are_words(words, MOST_SOUNDS_TOLD, MOST_WORDS):
        raise NoWords()
    need_shape_for(words, shape)
    return phrase_words(words, shape)


def read_phrase(text):
    """The words and the shape of the phrase whose text it is."""
    leaves, shape = _read(text)
    words = tuple([_row_of(leaf) for leaf in leaves])
    if not are_words(words, MOST_SOUNDS_TOLD, MOST_WORDS):
        raise NoText()
    return words, shape


def shape_text(lengths, shape):
    """The text of the shape, with the lengths in the place of words."""
    need_lengths(lengths)
    need_shape_for(lengths, shape)
    return _bracketed([str(length) for length in lengths], shape)


def read_shape(text):
    """The lengths and the shape whose text it is."""
    leaves, shape = _read(text)
    lengths = tuple([number_of(leaf, len(str(MOST_LENGTH))) for leaf in leaves])
    if not are_lengths(lengths):
        raise NoText()
    return lengths, shape


def book_text(book):
    """The text of the book."""
    table = book.table()
    lines = [f"book {book.sounds()} {book.ahead()} {book.behind()}"]
    for key in sorted(list(table)):
        lines.append(" ".join([digits_of(row) for row in key + table[key]]))
    return "\n".join(lines)


def _sizes_in(line):
    """The three sizes of a book in the first line of its text; None for one that is no figure."""
    words = line.split(" ")
    if len(words) != 4:
        raise NoText()
    return [number_of(word, 1) for word in words[1:]]


def _table_in(lines):
    """The table in the lines behind the first one."""
    table = {}
    for line in lines:
        rows = [_row_of(word) for word in line.split(" ")]
        if len(rows) != 4:
            raise NoText()
        table[rows[0], rows[1]] = (rows[2], rows[3])
    return table


def read_book(text):
    """The book whose text it is."""
    if not isinstance(text, str):
        raise NoText()
    lines = text.split("\n")
    sounds, ahead, behind = _sizes_in(lines[0])
    table = _table_in(lines[1:])
    try:
        book = Book(sounds, ahead, behind, table)
    except NoBook:
        raise NoText() from None
    if book_text(book) != text:
        raise NoText()
    return book
