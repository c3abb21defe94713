"""[16]: whether brackets matter with a told book, and how many rows can be said."""

import itertools
import random
import unittest

from heardseams.books import Book, by_function, mirrored, one_behind_another
from heardseams.errors import NoLengths, NoNumber, NoWords, TooMany
from heardseams.forms import classes_many
from heardseams.partings import parting
from heardseams.saying import said
from heardseams.shapes import all_shapes
from heardseams.toldbooks import matters, matters_many, most_sayings, unlike_sayings
from tests.helper import (
    all_rows_by_hand, error_kind, full_book, meet_by_hand, no_integers, no_lengths, no_words, raised, random_book,
    random_row, say_by_hand, some_lengths, trees,
)

SIZES = ((1, 1, 1), (1, 4, 4), (2, 1, 1), (2, 1, 2), (2, 2, 1), (2, 2, 2), (3, 1, 1), (3, 2, 1), (8, 1, 1))


def unlike(book, three):
    x, y, z = three
    one = meet_by_hand(book, x, meet_by_hand(book, y, z))
    return one != meet_by_hand(book, meet_by_hand(book, x, y), z)


def all_unlike(book, ahead, between, behind):
    rows = [all_rows_by_hand(book.sounds(), most) for most in (ahead, between, behind)]
    return [three for three in itertools.product(*rows) if unlike(book, three)]


def first_of(threes):
    return min(threes, key=lambda three: (sum(len(row) for row in three), three), default=None)


def quiet_books():
    """Books that change something, with which brackets are never heard."""
    return [
        # Every sound that is looked at becomes 0.
        by_function(2, 1, 1, lambda left, right: ((0,), (0,))),
        by_function(2, 2, 2, lambda left, right: ((0,) * len(left), (0,) * len(right))),
        # The sound ahead of a seam hangs on itself alone, and so does that behind it.
        by_function(3, 1, 1, lambda left, right: ((max(left[0], 1),), (max(right[0], 1),))),
        # The sound behind a seam becomes another one; it is never ahead of a seam and looked at.
        Book(8, 1, 1, {((left,), (7,)): ((left,), (6,)) for left in range(8)}),
        by_function(2, 1, 2, lambda left, right: (left, (0,) + right[1:])),
    ]


def some_books(seed):
    chance = random.Random(seed)
    found = [Book(*sizes, {}) for sizes in SIZES] + quiet_books()
    for sizes in SIZES:
        found += [full_book(chance, *sizes) for _ in range(2)]
        found += [random_book(chance, *sizes, many) for many in (1, 2, 3, 6)]
    return found


class Matters(unittest.TestCase):
    def test_against_a_search_over_all_three_rows(self):
        kinds = {}
        for book in some_books(1):
            found = all_unlike(book, book.ahead(), book.reach() - 1, book.behind())
            self.assertEqual(matters(book), first_of(found))
            self.assertEqual(matters_many(book), len(found))
            kinds[matters(book) is None] = True
        self.assertEqual(set(kinds), {True, False})

    def test_longer_rows_are_not_needed(self):
        chance = random.Random(2)
        for sizes in ((2, 1, 1), (2, 1, 2), (2, 2, 1), (3, 1, 1)):
            for many in (1, 1, 2, 2, 3, 20):
                book = random_book(chance, *sizes, many)
                longer = all_unlike(book, book.ahead() + 1, book.reach() + 1, book.behind() + 1)
                self.assertEqual(matters(book), first_of(longer))

    def test_the_fewest_sounds_come_first_then_the_least(self):
        chance = random.Random(9)
        others = 0
        for _ in range(60):
            book = random_book(chance, 2, chance.randint(1, 2), 2, 2)
            threes = all_unlike(book, book.ahead(), book.reach() - 1, book.behind())
            if threes:
                least = min(sum(len(row) for row in three) for three in threes)
                self.assertEqual(matters(book), min(
                    three for three in threes if sum(len(row) for row in three) == least
                ))
                others += matters(book) != min(threes)
        self.assertGreater(others, 5)

    def test_two_sounds_by_hand(self):
        book = Book(2, 1, 1, {((0,), (0,)): ((1,), (0,))})
        self.assertEqual(matters(book), ((0,), (0,), (0,)))
        self.assertEqual(matters_many(book), 1)
        book = Book(2, 1, 1, {((0,), (1,)): ((1,), (0,))})
        self.assertEqual(matters(book), first_of(all_unlike(book, 1, 1, 1)))
        book = Book(3, 1, 1, {((0,), (1,)): ((2,), (1,))})
        self.assertIsNone(matters(book))
        self.assertEqual(matters_many(book), 0)

    def test_books_with_which_brackets_are_never_heard(self):
        chance = random.Random(3)
        for book in quiet_books() + [Book(1, 4, 4, {})]:
            self.assertEqual(matters_many(book), len(all_unlike(book, book.ahead(), book.reach() - 1, book.behind())))
            if matters(book) is None:
                for _ in range(20):
                    words = tuple(random_row(chance, book.sounds(), chance.randint(1, 5)) for _ in range(5))
                    rows = {say_by_hand(book, words, tree) for tree in trees(0, 4)}
                    self.assertEqual(len(rows), 1)
        self.assertGreaterEqual(sum(matters(book) is None for book in quiet_books()), 3)

    def test_none_exactly_if_all_shapes_of_all_short_words_are_said_alike(self):
        for book in some_books(4):
            if book.sounds() > 2 or book.reach() > 3:
                continue
            heard = False
            for words in itertools.product(all_rows_by_hand(book.sounds(), 2), repeat=4):
                rows = {say_by_hand(book, words, tree) for tree in trees(0, 3)}
                heard = heard or len(rows) > 1
            self.assertIs(matters(book) is not None, heard)

    def test_books_that_part_two_shapes(self):
        for middle in (1, 2, 3, 4):
            book = parting((5, middle, 5), (0, 1), (1, 0))
            threes = all_unlike(book, book.ahead(), book.reach() - 1, book.behind())
            self.assertEqual(matters(book), first_of(threes))
            self.assertEqual(matters_many(book), len(threes))
            self.assertGreater(len(threes), 0)

    def test_a_mirrored_book(self):
        chance = random.Random(5)
        for _ in range(12):
            book = random_book(chance, *chance.choice(SIZES[2:8]), 8)
            self.assertEqual(matters_many(mirrored(book)), matters_many(book))

    def test_too_large_a_book(self):
        # 2 sounds, 3 ahead, 3 behind: 14 * 62 * 14 = 12152 three rows; 3 and 4: 14 * 126 * 30.
        self.assertIsNone(matters(Book(2, 3, 3, {})))
        for sizes in ((2, 3, 4), (2, 4, 4), (8, 2, 1), (8, 4, 4), (4, 2, 2)):
            for book in (Book(*sizes, {}), random_book(random.Random(6), *sizes, 50)):
                self.assertIs(error_kind(matters, book), TooMany)
                self.assertIs(error_kind(matters_many, book), TooMany)

    def test_both_sides_of_twenty_thousand(self):
        # 2 sounds, 2 ahead, 4 behind: 6 * 62 * 30 = 11160; 3, 2, 2: 12 * 39 * 12 = 5616; 5, 2, 1: 30 * 30 * 5 = 4500;
        # 6, 2, 1: 42 * 42 * 6 = 10584; 7, 2, 1: 56 * 56 * 7 = 21952; 4, 2, 2: 20 * 84 * 20 = 33600.
        for sizes in ((2, 2, 4), (3, 2, 2), (5, 2, 1), (6, 2, 1)):
            self.assertEqual(matters_many(Book(*sizes, {})), 0)
        for sizes in ((7, 2, 1), (7, 1, 2), (4, 2, 2)):
            for function in (matters, matters_many):
                error = raised(function, Book(*sizes, {}))
                self.assertIs(error.__class__, TooMany)
                self.assertEqual(error.most, 20000)

    def test_one_behind_another(self):
        book = full_book(random.Random(7), 2, 1, 1)
        both = one_behind_another(book, book)
        self.assertEqual(matters(both), first_of(all_unlike(both, 1, 1, 1)))

    def test_equal_calls(self):
        book = full_book(random.Random(8), 2, 2, 1)
        self.assertEqual(matters(book), matters(book))


class UnlikeSayings(unittest.TestCase):
    def test_against_said_of_all_shapes(self):
        chance = random.Random(10)
        for book in some_books(11):
            for many in range(1, 6):
                words = tuple(random_row(chance, book.sounds(), chance.randint(1, 4)) for _ in range(many))
                rows = {say_by_hand(book, words, tree) for tree in trees(0, many - 1)}
                self.assertEqual(unlike_sayings(book, words), len(rows))

    def test_nine_words(self):
        chance = random.Random(12)
        for book in (full_book(chance, 2, 2, 2), full_book(chance, 3, 1, 1), Book(8, 4, 4, {})):
            for longest in (1, 3, 200):
                words = tuple(random_row(chance, book.sounds(), chance.randint(1, longest)) for _ in range(9))
                rows = {said(book, words, shape) for shape in all_shapes(9)}
                self.assertEqual(unlike_sayings(book, words), len(rows))

    def test_as_many_as_there_are_shapes(self):
        book = full_book(random.Random(13), 8, 1, 1)
        self.assertLessEqual(unlike_sayings(book, ((0,),) * 9), 1430)
        self.assertEqual(unlike_sayings(book, ((0,),)), 1)
        self.assertEqual(unlike_sayings(book, ((0,), (0,))), 1)

    def test_ten_words(self):
        book = Book(2, 1, 1, {})
        for many in (10, 11, 40):
            error = raised(unlike_sayings, book, ((0,),) * many)
            self.assertIs(error.__class__, TooMany)
            self.assertEqual(error.most, 9)
        self.assertEqual(unlike_sayings(book, ((0,),) * 9), 1)

    def test_no_words(self):
        for thing in no_words(2):
            self.assertIs(error_kind(unlike_sayings, Book(2, 1, 1, {}), thing), NoWords, thing)
        self.assertIs(error_kind(unlike_sayings, Book(2, 1, 1, {}), ((0,),) * 10 + ((2,),)), NoWords)


class MostSayings(unittest.TestCase):
    def test_the_classes_for_the_reach(self):
        for words in (1, 2, 3, 6, 40):
            for lengths in some_lengths(words, 14):
                for reach in (2, 3, 8, 9, 1000, 10 ** 6, 10 ** 9):
                    self.assertEqual(most_sayings(lengths, reach), classes_many(lengths, reach))

    def test_no_book_has_more(self):
        chance = random.Random(15)
        for _ in range(80):
            sounds, ahead, behind = chance.choice((2, 3)), chance.randint(1, 2), chance.randint(1, 2)
            book = full_book(chance, sounds, ahead, behind)
            lengths = tuple(chance.randint(1, 3) for _ in range(6))
            words = tuple(random_row(chance, sounds, length) for length in lengths)
            self.assertLessEqual(unlike_sayings(book, words), most_sayings(lengths, book.reach()))

    def test_some_book_has_as_many(self):
        self.assertEqual(most_sayings((1, 1, 1), 2), 2)
        book = parting((1, 1, 1), (0, 1), (1, 0))
        self.assertEqual(unlike_sayings(book, ((0,),) * 3), 2)

    def test_refused(self):
        for thing in no_lengths():
            self.assertIs(error_kind(most_sayings, thing, 2), NoLengths)
            self.assertIs(error_kind(most_sayings, thing, None), NoLengths)
        for thing in no_integers() + [1, 0, -1, 10 ** 9 + 1, 10 ** 40, -10 ** 40]:
            self.assertIs(error_kind(most_sayings, (1, 1), thing), NoNumber)


if __name__ == "__main__":
    unittest.main()
