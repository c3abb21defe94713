"""[21]: texts of phrases, of shapes, of books."""

import itertools
import random
import unittest

from heardseams.books import Book, by_function
from heardseams.errors import NoLengths, NoShape, NoText, NoWords
from heardseams.texts import book_text, phrase_text, read_book, read_phrase, read_shape, shape_text
from tests.helper import (
    error_kind, left_comb, long_trees, no_lengths, no_shapes, no_words, odd_things, random_book, random_row,
    random_tree, right_comb, shape_of, some_lengths, trees, zigzag,
)

READERS = (read_phrase, read_shape, read_book)


def digits(row):
    return "".join(map(str, row))


def text_by_hand(leaves, tree):
    if isinstance(tree, int):
        return leaves[tree]
    return "(" + text_by_hand(leaves, tree[0]) + " " + text_by_hand(leaves, tree[1]) + ")"


def read_by_hand(text):
    """The list of what stands in the place of the words, and the tree; None if it is no text."""
    leaves = []

    def part(at):
        """The tree that begins here and the place behind it; None if there is none."""
        if at < len(text) and text[at] == "(":
            one, at = part(at + 1) or (None, None)
            if at is None or text[at:at + 1] != " ":
                return None
            other, at = part(at + 1) or (None, None)
            if at is None or text[at:at + 1] != ")":
                return None
            return (one, other), at + 1
        end = at
        while end < len(text) and text[end] in "0123456789":
            end += 1
        leaves.append(text[at:end])
        return (len(leaves) - 1, end) if end > at else None

    found = part(0)
    if found is None or found[1] != len(text):
        return None
    return leaves, found[0]


def phrase_by_hand(text):
    found = read_by_hand(text)
    if found is None or len(found[0]) > 40:
        return None
    leaves, tree = found
    if any(len(leaf) > 200 or "8" in leaf or "9" in leaf for leaf in leaves):
        return None
    return tuple(tuple(map(int, leaf)) for leaf in leaves), shape_of(tree)


def shape_by_hand(text):
    found = read_by_hand(text)
    if found is None or len(found[0]) > 40:
        return None
    leaves, tree = found
    if any(leaf[0] == "0" or int(leaf) > 10 ** 6 for leaf in leaves):
        return None
    return tuple(map(int, leaves)), shape_of(tree)


def book_text_by_hand(book):
    lines = [f"book {book.sounds()} {book.ahead()} {book.behind()}"]
    for (left, right), (new_left, new_right) in sorted(book.table().items()):
        lines.append(f"{digits(left)} {digits(right)} {digits(new_left)} {digits(new_right)}")
    return "\n".join(lines)


def nearly(text, signs):
    """All texts with one sign more, one less, or another one in the place of one."""
    found = {text[:at] + text[at + 1:] for at in range(len(text))}
    found |= {text[:at] + sign + text[at:] for at in range(len(text) + 1) for sign in signs}
    found |= {text[:at] + sign + text[at + 1:] for at in range(len(text)) for sign in signs}
    found |= {text[:at] + text[at + 1:at + 2] + text[at:at + 1] + text[at + 2:] for at in range(len(text))}
    return sorted(found)


def random_words(chance, many, longest):
    return tuple(random_row(chance, 8, chance.randint(1, longest)) for _ in range(many))


class Phrases(unittest.TestCase):
    def test_by_hand(self):
        self.assertEqual(phrase_text(((0, 1), (2,), (7, 7, 0)), (1, 0)), "((01 2) 770)")
        self.assertEqual(phrase_text(((0, 1), (2,), (7, 7, 0)), (0, 1)), "(01 (2 770))")
        self.assertEqual(phrase_text(((0,),), ()), "0")
        self.assertEqual(read_phrase("((01 2) 770)"), (((0, 1), (2,), (7, 7, 0)), (1, 0)))
        self.assertEqual(read_phrase("0"), (((0,),), ()))
        self.assertEqual(read_phrase("00"), (((0, 0),), ()))

    def test_there_and_back(self):
        chance = random.Random(1)
        for many in range(1, 7):
            for tree in trees(0, many - 1):
                words = random_words(chance, many, 4)
                text = text_by_hand([digits(word) for word in words], tree)
                self.assertEqual(phrase_text(words, shape_of(tree)), text)
                self.assertEqual(read_phrase(text), (words, shape_of(tree)))

    def test_forty_words_and_one_more(self):
        chance = random.Random(2)
        for tree in long_trees(20, 3):
            words = random_words(chance, 40, 5)
            text = text_by_hand([digits(word) for word in words], tree)
            self.assertEqual(phrase_text(words, shape_of(tree)), text)
            self.assertEqual(read_phrase(text), (words, shape_of(tree)))
            for more in (f"({text} 0)", f"(0 {text})", f"({text} {text})"):
                self.assertIs(error_kind(read_phrase, more), NoText)
        for shape in (left_comb(40), right_comb(40), zigzag(40)):
            text = phrase_text(((1,),) * 40, shape)
            self.assertEqual(read_phrase(text), (((1,),) * 40, shape))

    def test_words_of_two_hundred_sounds_and_one_more(self):
        word = random_row(random.Random(3), 8, 200)
        text = digits(word)
        self.assertEqual(phrase_text((word, (1,)), (0,)), f"({text} 1)")
        self.assertEqual(read_phrase(text), ((word,), ()))
        self.assertEqual(read_phrase(f"(1 {text})"), (((1,), word), (0,)))
        for more in (text + "0", f"({text}0 1)", f"(1 {text}0)", "0" * 201, "0" * 10000):
            self.assertIs(error_kind(read_phrase, more), NoText)

    def test_all_short_texts(self):
        found = {}
        for many in range(8):
            for signs in itertools.product("() 08", repeat=many):
                text = "".join(signs)
                expected = phrase_by_hand(text)
                if expected is None:
                    self.assertIs(error_kind(read_phrase, text), NoText, text)
                else:
                    self.assertEqual(read_phrase(text), expected)
                    found[text] = True
        self.assertEqual(sorted(found), sorted(
            ["0" * many for many in range(1, 8)] + ["(0 0)", "(00 0)", "(0 00)", "(000 0)", "(00 00)", "(0 000)"]
        ))

    def test_texts_that_are_nearly_one(self):
        chance = random.Random(4)
        right = 0
        for many in (1, 2, 3, 4, 6):
            for _ in range(4):
                words = random_words(chance, many, 2)
                text = phrase_text(words, shape_of(random_tree(chance, 0, many - 1)))
                for other in nearly(text, "() 07a8\n\t-+_.,"):
                    expected = phrase_by_hand(other)
                    if expected is None:
                        self.assertIs(error_kind(read_phrase, other), NoText, other)
                    else:
                        self.assertEqual(read_phrase(other), expected)
                        right += 1
        self.assertGreater(right, 100)

    def test_no_text(self):
        wrong = [thing for thing in odd_things() if thing != "0"] + [
            " ", "()", "( )", "(0)", "((0))", "(0  0)", " (0 0)", "(0 0) ", "( 0 0)", "(0 0 )", "0 0", "(0 0", "0 0)", "(0 0))",
            "((0 0)", "(0 0 0)", "((0 0) 0 0)", "(0 (0) 0)", ")0 0(", "0)(0 0", "(0 0)(0 0)", "(0 0) (0 0)", "(0,0)", "(0\t0)",
            "(0\n0)", "0\n", "8", "9", "(0 8)", "-1", "+1", "1_1", "0x1", "(00)0", "0(0 0)", "(0 0)0", "((0 0)0 0)", "(0 0(0 0))",
            ["(0 0)"], ("0",), b"0",
        ]
        for thing in wrong:
            self.assertIs(error_kind(read_phrase, thing), NoText, thing)

    def test_refused(self):
        for thing in no_words(8):
            for shape in ((), (0,), None):
                self.assertIs(error_kind(phrase_text, thing, shape), NoWords, thing)
        words = ((0,), (7, 7), (0,))
        for thing in no_shapes() + [(), (0,), (1, 0, 1)]:
            self.assertIs(error_kind(phrase_text, words, thing), NoShape, thing)
        self.assertIs(error_kind(phrase_text, ((8,),), ()), NoWords)
        self.assertEqual(phrase_text(((7,) * 200,), ()), "7" * 200)


class Shapes(unittest.TestCase):
    def test_by_hand(self):
        self.assertEqual(shape_text((1, 10 ** 6, 30), (1, 0)), "((1 1000000) 30)")
        self.assertEqual(shape_text((7,), ()), "7")
        self.assertEqual(read_shape("((1 1000000) 30)"), ((1, 10 ** 6, 30), (1, 0)))
        self.assertEqual(read_shape("7"), ((7,), ()))

    def test_there_and_back(self):
        for many in range(1, 6):
            for tree in trees(0, many - 1):
                for lengths in some_lengths(many, 5):
                    text = text_by_hand(list(map(str, lengths)), tree)
                    self.assertEqual(shape_text(lengths, shape_of(tree)), text)
                    self.assertEqual(read_shape(text), (lengths, shape_of(tree)))

    def test_forty_words_and_one_more(self):
        for tree in long_trees(10, 6):
            for lengths in some_lengths(40, 7):
                text = text_by_hand(list(map(str, lengths)), tree)
                self.assertEqual(shape_text(lengths, shape_of(tree)), text)
                self.assertEqual(read_shape(text), (lengths, shape_of(tree)))
                self.assertIs(error_kind(read_shape, f"({text} 1)"), NoText)
                self.assertIs(error_kind(read_shape, f"(1 {text})"), NoText)

    def test_the_least_and_the_greatest_length(self):
        for length in (1, 9, 10, 999999, 10 ** 6):
            self.assertEqual(read_shape(str(length)), ((length,), ()))
            self.assertEqual(read_shape(f"(1 {length})"), ((1, length), (0,)))
        for text in ("0", "1000001", "9999999", "10000000", "01", "00", "0001000000", "1" * 5000, "0" * 5000):
            self.assertIs(error_kind(read_shape, text), NoText)
            self.assertIs(error_kind(read_shape, f"(1 {text})"), NoText)
            self.assertIs(error_kind(read_shape, f"({text} 1)"), NoText)

    def test_all_short_texts(self):
        for many in range(7):
            for signs in itertools.product("() 01", repeat=many):
                text = "".join(signs)
                expected = shape_by_hand(text)
                if expected is None:
                    self.assertIs(error_kind(read_shape, text), NoText, text)
                else:
                    self.assertEqual(read_shape(text), expected)

    def test_texts_that_are_nearly_one(self):
        right = 0
        for text in ("30", "(1 20)", "((1 200) 1000000)", "(1 ((2 3) 4))", "((1 2) (999999 10))"):
            for other in nearly(text, "() 019a\n\t-+_."):
                expected = shape_by_hand(other)
                if expected is None:
                    self.assertIs(error_kind(read_shape, other), NoText, other)
                else:
                    self.assertEqual(read_shape(other), expected)
                    right += 1
        self.assertGreater(right, 50)

    def test_refused(self):
        for thing in no_lengths():
            for shape in ((), (0,), None):
                self.assertIs(error_kind(shape_text, thing, shape), NoLengths, thing)
        for thing in no_shapes() + [(), (0,), (1, 0, 1)]:
            self.assertIs(error_kind(shape_text, (1, 2, 3), thing), NoShape, thing)
        for thing in odd_things() + ["(1)", "(1 2) ", "1\n"]:
            self.assertIs(error_kind(read_shape, thing), NoText, thing)


class Books(unittest.TestCase):
    BOOK = Book(3, 2, 1, {
        ((2,), (0,)): ((0,), (1,)), ((0, 1), (2,)): ((0, 2), (2,)), ((1,), (1,)): ((1,), (1,)), ((0,), (2,)): ((2,), (0,)),
    })
    TEXT = "book 3 2 1\n0 2 2 0\n01 2 02 2\n2 0 0 1"

    def test_by_hand(self):
        self.assertEqual(book_text(self.BOOK), self.TEXT)
        self.assertEqual(read_book(self.TEXT), self.BOOK)
        self.assertEqual(book_text(Book(8, 4, 3, {})), "book 8 4 3")
        self.assertEqual(read_book("book 8 4 3"), Book(8, 4, 3, {}))
        self.assertEqual(read_book("book 2 1 1\n0 0 1 0").table(), {((0,), (0,)): ((1,), (0,))})

    def test_there_and_back(self):
        chance = random.Random(8)
        for _ in range(150):
            sounds, ahead, behind = chance.randint(1, 8), chance.randint(1, 4), chance.randint(1, 4)
            book = random_book(chance, sounds, ahead, behind, chance.choice((0, 1, 2, 5, 40, 400)))
            self.assertEqual(book_text(book), book_text_by_hand(book))
            self.assertEqual(read_book(book_text(book)), book)

    def test_all_sizes(self):
        for sizes in itertools.product(range(0, 11), range(0, 6), range(0, 6)):
            text = "book " + " ".join(map(str, sizes))
            if 1 <= sizes[0] <= 8 and 1 <= sizes[1] <= 4 and 1 <= sizes[2] <= 4:
                self.assertEqual(read_book(text), Book(*sizes, {}))
            else:
                self.assertIs(error_kind(read_book, text), NoText)

    def test_four_thousand_entries_and_more(self):
        table = {}
        for at in range(4001):
            figures = tuple(at // 8 ** power % 8 for power in (3, 2, 1, 0))
            table[figures, (0,)] = (figures, (1,))
        some = Book(8, 4, 1, dict(list(table.items())[:4000]))
        self.assertEqual(read_book(book_text(some)), some)
        last = "7640 0 7640 1"
        self.assertNotIn(last, book_text(some))
        self.assertIs(error_kind(read_book, book_text(some) + "\n" + last), NoText)

    def test_a_book_with_more_entries_has_a_text(self):
        book = by_function(2, 4, 4, lambda left, right: (left[:-1] + (1 - left[-1],), right))
        self.assertEqual(len(book.table()), 900)
        self.assertEqual(read_book(book_text(book)), book)
        book = by_function(5, 4, 1, lambda left, right: (left, ((right[0] + 1) % 5,)))
        self.assertEqual(len(book.table()), 3900)
        self.assertEqual(read_book(book_text(book)), book)
        book = by_function(6, 4, 1, lambda left, right: (left, ((right[0] + 1) % 6,)))
        self.assertGreater(len(book.table()), 4000)
        self.assertEqual(book_text(book), book_text_by_hand(book))
        self.assertIs(error_kind(read_book, book_text(book)), NoText)

    def test_texts_that_are_nearly_one(self):
        signs = "0123 \nbk8-a\t"
        for text in (self.TEXT, "book 2 1 1\n0 0 1 0", "book 2 1 1"):
            for other in nearly(text, signs):
                error = error_kind(read_book, other)
                if error is not None.__class__:
                    self.assertIs(error, NoText, other)
                else:
                    self.assertEqual(book_text_by_hand(read_book(other)), other)

    def test_no_text(self):
        wrong = odd_things() + [
            "book", "book ", "book 2", "book 2 1", "book 2 1 1 ", " book 2 1 1", "book  2 1 1", "book 2 1  1", "book 2 1 1 1",
            "book 2 1 1\n", "\nbook 2 1 1", "Book 2 1 1", "books 2 1 1", "2 1 1", "book 02 1 1", "book 2 01 1", "book 2 1 001",
            "book 2 1 1\n\n0 0 1 0", "book 2 1 1\n0 0 1 0\n", "book 2 1 1\n0 0 1", "book 2 1 1\n0 0 1 0 0", "book 2 1 1\n0 0  1 0",
            "book 2 1 1\n0 0 1 0 ", "book 2 1 1\n 0 0 1 0", "book 2 1 1\n0 0 0 0", "book 2 1 1\n0 0 1 0\n1 1 1 1",
            "book 2 1 1\n0 0 1 0\n0 0 1 0", "book 2 1 1\n0 0 1 0\n0 0 1 1", "book 2 1 1\n0 1 1 0\n0 0 1 0", "book 2 1 1\n0 0 2 0",
            "book 2 1 1\n2 0 1 0", "book 2 1 1\n00 0 01 0", "book 2 1 1\n0 00 0 01", "book 2 2 1\n00 0 1 0", "book 2 2 1\n0 0 01 0",
            "book 2 2 1\n0  01 0", "book 2 2 1\n 0 01 0", "book 2 1 1 0 0 1 0", "book 2 1 1\r\n0 0 1 0", "book 2 1 1\n0 0 a 0",
            "book 2 1 1\n0 0 1 -", "book 9 1 1", "book 0 1 1", "book 2 5 1", "book 2 1 5", "book 10 1 1", "book -2 1 1",
            "book 2 1 1\n0\t0 1 0", "book 2\t1 1", "book a 1 1", "book 2 1 1\n0 0 1 0\nbook 2 1 1", "book " + "2" * 5000 + " 1 1",
            "book 2 1 1\n" + "0" * 5000 + " 0 1 0", "\n" * 10000,
        ]
        for thing in wrong:
            self.assertIs(error_kind(read_book, thing), NoText, thing)


class Deep(unittest.TestCase):
    def test_no_text_is_too_deep_or_too_long(self):
        for many in (41, 500, 3000, 100000):
            texts = (
                "(" * many, ")" * many, " " * many, "( " * many, ") " * many, " (" * many, "0" * many + "(", "(0 " * many,
                "(" * many + "0" + " 0)" * many, "(0 " * many + "0" + ")" * many, "(" * many + ")" * many, "0 " * many,
                "()" * many, "(0" * many, "(" * many + " " + ")" * many, "\n" * many, "(0 0)" * many,
            )
            for text in texts:
                for reader in READERS:
                    self.assertIs(error_kind(reader, text), NoText)

    def test_the_deepest_that_are_right(self):
        for many in (39, 40):
            for text in ("(" * many + "1" + " 1)" * many, "(1 " * many + "1" + ")" * many):
                for reader in (read_phrase, read_shape):
                    self.assertIs(error_kind(reader, text), None.__class__ if many == 39 else NoText)


if __name__ == "__main__":
    unittest.main()
