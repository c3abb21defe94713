"""[25]: books compared, books by their numbers, many shapes at once."""

import itertools
import random
import unittest

from heardseams.books import Book, by_function, mirrored
from heardseams.errors import NoLengths, NoList, NoNumber, NoShapes, NoWords, OtherBook, TooMany
from heardseams.forms import classes_many
from heardseams.numbers import alike_in_all, number
from heardseams.partings import parting
from heardseams.saying import said
from heardseams.shapes import all_shapes, is_shape
from heardseams.shelves import (
    book_at, hears_all, least_reach, number_of_book, numbers_of, parted_by, same_for,
)
from tests.helper import (
    error_kind, full_book, long_trees, meet_by_hand, no_integers, no_lengths, no_shapes, no_words, odd_things, raised,
    random_book, random_row, say_by_hand, shape_of, some_lengths, trees,
)
from tests.test_toldwords import COUNTER

STILL = Book(2, 1, 1, {})
OTHER_SIZES = Book(2, 2, 3, {})
ONES = Book(2, 1, 1, {((0,), (0,)): ((1,), (0,))})


def changed(chance, book):
    """A book that does otherwise in one or two places."""
    table = book.table()
    for _ in range(chance.randint(1, 2)):
        left = random_row(chance, book.sounds(), chance.randint(1, book.ahead()))
        right = random_row(chance, book.sounds(), chance.randint(1, book.behind()))
        table[left, right] = (random_row(chance, book.sounds(), len(left)), random_row(chance, book.sounds(), len(right)))
    return Book(book.sounds(), book.ahead(), book.behind(), table)


def some_pairs(seed, many):
    """Pairs of books with as many sounds: some nearly equal, some of other sizes, some of nothing in common."""
    chance = random.Random(seed)
    found = []
    for _ in range(many):
        sounds = chance.choice((1, 2, 2, 3, 8))
        book = random_book(chance, sounds, chance.randint(1, 3), chance.randint(1, 3), chance.choice((0, 1, 3, 9)))
        other = random_book(chance, sounds, chance.randint(1, 3), chance.randint(1, 3), chance.choice((0, 1, 3)))
        found += [(book, changed(chance, book)), (book, other), (book, Book(sounds, 3, 3, book.table()))]
    return found


def no_other_books(sounds):
    return [thing for thing in odd_things() if not isinstance(thing, Book)] + [
        Book(more, 1, 1, {}) for more in range(1, 9) if more != sounds
    ]


class PartedBy(unittest.TestCase):
    def by_hand(self, book, other, words):
        for tree in trees(0, len(words) - 1):
            if say_by_hand(book, words, tree) != say_by_hand(other, words, tree):
                return shape_of(tree)
        return None

    def test_all_shapes_gone_through(self):
        chance = random.Random(1)
        kinds = set()
        for book, other in some_pairs(2, 50):
            for many in range(1, 6):
                words = tuple(random_row(chance, book.sounds(), chance.randint(1, 3)) for _ in range(many))
                expected = self.by_hand(book, other, words)
                self.assertEqual(parted_by(book, other, words), expected)
                kinds.add((many, expected))
        self.assertEqual({many for many, shape in kinds if shape is None}, {1, 2, 3, 4, 5})
        self.assertGreater(len(kinds), 15)

    def test_only_a_later_shape(self):
        book = Book(3, 1, 1, {((0,), (0,)): ((0,), (1,)), ((1,), (0,)): ((2,), (0,))})
        other = Book(3, 1, 1, {((0,), (0,)): ((0,), (1,))})
        self.assertIsNone(parted_by(book, other, ((0,), (0,))))
        self.assertEqual(parted_by(book, other, ((0,), (0,), (0,))), (1, 0))

    def test_equal_books_and_other_sizes(self):
        for many in (1, 5, 9):
            words = ((0,), (1,)) * 4 + ((0, 1),)
            self.assertIsNone(parted_by(ONES, Book(2, 1, 1, ONES.table()), words[:many]))
            self.assertIsNone(parted_by(ONES, ONES, words[:many]))
            self.assertIsNone(parted_by(STILL, OTHER_SIZES, words[:many]))
        # What stands in a table for one sound is done by a longer looking book to short phrases alone.
        longer = Book(2, 2, 1, ONES.table())
        self.assertIsNone(parted_by(ONES, longer, ((0,), (0,))))
        self.assertEqual(parted_by(ONES, longer, ((0, 0), (0,))), (0,))

    def test_nine_words_and_ten(self):
        words = ((0,),) * 9
        self.assertEqual(parted_by(STILL, ONES, words), all_shapes(9)[0])
        for many in (10, 11, 40):
            error = raised(parted_by, STILL, STILL, ((0,),) * many)
            self.assertIs(error.__class__, TooMany)
            self.assertEqual(error.most, 9)

    def test_refused(self):
        for thing in no_other_books(2):
            for words in (((0,),), ((0,),) * 10, None):
                self.assertIs(error_kind(parted_by, STILL, thing, words), OtherBook, thing)
        for thing in no_words(2):
            self.assertIs(error_kind(parted_by, STILL, OTHER_SIZES, thing), NoWords, thing)


def summaries_said_alike(book, other, words, most):
    """The summaries of the phrases that both say alike with all phrases within, until none is new or there are too many."""
    ahead, behind = max(book.ahead(), other.ahead()), max(book.behind(), other.behind())

    def told(row):
        return (row, ()) if len(row) < ahead + behind else (row[:behind], row[len(row) - ahead:])

    rows = {told(word): word for word in words}
    before = 0
    while before < len(rows) <= most:
        before = len(rows)
        for one, two in itertools.product(list(rows.values()), repeat=2):
            row = meet_by_hand(book, one, two)
            if row == meet_by_hand(other, one, two):
                rows.setdefault(told(row), row)
    return rows


def fewest_by_hand(book, other, words, most):
    """The fewest words, up to the most, of a phrase that both say unlike, all phrases being said; None if there is none."""
    levels = [[], list(words)]
    for many in range(2, most + 1):
        level = {}
        for ahead in range(1, many):
            for one, two in itertools.product(levels[ahead], levels[many - ahead]):
                row = meet_by_hand(book, one, two)
                if row != meet_by_hand(other, one, two):
                    return many
                level[row] = True
        levels.append(list(level))
    return None


class SameFor(unittest.TestCase):
    def check(self, book, other, words):
        """The number of words of the phrase, which is checked; None if there is none."""
        found = same_for(book, other, words)
        if found is None:
            return None
        self.assertIs(found.__class__, tuple)
        row, shape = found
        self.assertIs(row.__class__, tuple)
        self.assertTrue(all(word in words for word in row))
        self.assertTrue(is_shape(shape))
        self.assertNotEqual(said(book, row, shape), said(other, row, shape))
        return len(row)

    def some(self, seed, many):
        chance = random.Random(seed)
        for book, other in some_pairs(seed, many):
            words = tuple(random_row(chance, book.sounds(), chance.randint(1, 4)) for _ in range(chance.randint(1, 3)))
            if len(summaries_said_alike(book, other, words, 60)) <= 60:
                yield book, other, words

    def test_all_phrases_of_a_few_words_said(self):
        kinds = {}
        for book, other, words in self.some(3, 40):
            fewest = self.check(book, other, words)
            by_hand = fewest_by_hand(book, other, words, 5)
            kinds[by_hand] = True
            if by_hand is None:
                self.assertTrue(fewest is None or fewest > 5)
            else:
                self.assertEqual(fewest, by_hand)
            rows = summaries_said_alike(book, other, words, 60).values()
            unlike = any(
                meet_by_hand(book, one, two) != meet_by_hand(other, one, two)
                for one, two in itertools.product(rows, repeat=2)
            )
            self.assertIs(fewest is not None, unlike)
        self.assertLessEqual({None, 2, 3}, set(kinds))

    def test_said_alike_in_all_shapes(self):
        chance = random.Random(5)
        for book, other, words in self.some(6, 30):
            if same_for(book, other, words) is None:
                row = tuple(chance.choice(words) for _ in range(8))
                self.assertIsNone(parted_by(book, other, row))

    def test_equal_books_and_other_sizes(self):
        for words in (((0,),), ((0,), (1,)), ((0, 1), (1, 1, 0))):
            self.assertIsNone(same_for(ONES, ONES, words))
            self.assertIsNone(same_for(STILL, OTHER_SIZES, words))
            self.assertIsNone(same_for(OTHER_SIZES, STILL, words))
        self.assertEqual(same_for(STILL, ONES, ((1,), (0,))), (((0,), (0,)), (0,)))
        self.assertEqual(self.check(Book(2, 2, 1, ONES.table()), ONES, ((0, 0),)), 2)
        self.assertIsNone(same_for(STILL, ONES, ((1,), (0, 1))))

    def test_one_part_of_a_phrase_may_be_said_unlike_already(self):
        # (0 0) is said unlike, and so is what is made of it; nothing else is.
        other = Book(3, 1, 1, {((0,), (0,)): ((1,), (1,))})
        self.assertEqual(same_for(Book(3, 1, 1, {}), other, ((2,), (0,))), (((0,), (0,)), (0,)))

    def counting_on(self, last):
        """The counter's book, which goes wrong behind this number."""
        table = COUNTER.table()
        del table[(last // 8, last % 8), (0,)]
        return Book(8, 2, 1, table)

    def test_forty_words_and_more(self):
        for last in (11, 20, 46, 47):
            other = self.counting_on(last)
            self.assertLessEqual(len(summaries_said_alike(COUNTER, other, ((0,),), 400)), 400)
            self.assertEqual(self.check(COUNTER, other, ((0,),)), last - 7)
        for last in (48, 49, 62):
            for pair in ((COUNTER, self.counting_on(last)), (self.counting_on(last), COUNTER)):
                error = raised(same_for, *pair, ((0,),))
                self.assertIs(error.__class__, TooMany)
                self.assertEqual(error.most, 40)

    def test_four_hundred_summaries(self):
        # Each book looks far on one side alone; together they have many summaries.
        words = ((0,), (1,))
        many = 0
        for ahead, behind in itertools.product(range(1, 5), repeat=2):
            book, other = Book(2, ahead, 1, {}), Book(2, 1, behind, {})
            found = summaries_said_alike(book, other, words, 400)
            if len(found) <= 400:
                self.assertIsNone(same_for(book, other, words))
            else:
                many += 1
                error = raised(same_for, book, other, words)
                self.assertIs(error.__class__, TooMany)
                self.assertEqual(error.most, 400)
        self.assertGreater(many, 0)

    def test_too_many_summaries_although_two_words_are_said_unlike(self):
        book, other = Book(2, 4, 4, {}), Book(2, 4, 4, {((1,), (1,)): ((0,), (0,))})
        words = ((0,), (1,))
        self.assertEqual(fewest_by_hand(book, other, words, 2), 2)
        self.assertGreater(len(summaries_said_alike(book, other, words, 400)), 400)
        error = raised(same_for, book, other, words)
        self.assertIs(error.__class__, TooMany)
        self.assertEqual(error.most, 400)

    def test_summaries_of_phrases_said_unlike_do_not_count(self):
        # All that has two words is said unlike: only the words themselves are left.
        book = Book(2, 4, 4, {})
        other = by_function(2, 4, 4, lambda left, right: (left[:-1] + (1 - left[-1],), right))
        words = ((0,), (1,))
        self.assertIs(error_kind(same_for, book, book, words), TooMany)
        self.assertEqual(self.check(book, other, words), 2)

    def test_just_four_hundred(self):
        found = set()
        chance = random.Random(7)
        while not {True, False} <= found:
            book = random_book(chance, 3, 3, 3, 3)
            words = tuple(random_row(chance, 3, chance.randint(1, 9)) for _ in range(5))
            other = changed(chance, book)
            many = len(summaries_said_alike(book, other, words, 400))
            if many > 200:
                found.add(many > 400)
                self.assertIs(error_kind(same_for, book, other, words) is TooMany, many > 400)

    def test_refused(self):
        for thing in no_other_books(2):
            for words in (((0,),), None):
                self.assertIs(error_kind(same_for, STILL, thing, words), OtherBook, thing)
        for thing in no_words(2) + [((0,),) * 13, ((0,),) * 40]:
            self.assertIs(error_kind(same_for, STILL, OTHER_SIZES, thing), NoList, thing)
        self.assertIsNone(same_for(STILL, STILL, ((0,) * 200, (1,) * 200) * 6))

    def test_equal_calls(self):
        for book, other, words in self.some(8, 10):
            self.assertEqual(same_for(book, other, words), same_for(book, other, words))


class HearsAll(unittest.TestCase):
    def test_against_all_shapes_said(self):
        chance = random.Random(9)
        kinds = set()
        for _ in range(150):
            sounds, ahead, behind = chance.choice((2, 3)), chance.randint(1, 2), chance.randint(1, 2)
            book = full_book(chance, sounds, ahead, behind)
            many = chance.randint(1, 5)
            words = tuple(random_row(chance, sounds, chance.randint(1, 3)) for _ in range(many))
            rows = {say_by_hand(book, words, tree) for tree in trees(0, many - 1)}
            classes = classes_many(tuple(map(len, words)), book.reach())
            self.assertIs(hears_all(book, words), len(rows) == classes)
            kinds.add((len(rows) == classes, classes > 1))
        self.assertEqual(kinds, {(True, True), (True, False), (False, True)})

    def test_one_word_and_two(self):
        for book in (STILL, ONES, OTHER_SIZES):
            self.assertIs(hears_all(book, ((0, 1),)), True)
            self.assertIs(hears_all(book, ((0, 1), (1,))), True)

    def test_a_parting_book(self):
        book = parting((1, 1, 1), (0, 1), (1, 0))
        self.assertIs(hears_all(book, ((0,),) * 3), True)
        self.assertIs(hears_all(Book(2, 1, 1, {}), ((0,),) * 3), False)
        self.assertIs(hears_all(Book(2, 1, 1, {}), ((0, 0),) * 9), True)

    def test_nine_words_and_ten(self):
        self.assertIs(hears_all(STILL, ((0,),) * 9), False)
        for many in (10, 40):
            error = raised(hears_all, STILL, ((0, 0),) * many)
            self.assertIs(error.__class__, TooMany)
            self.assertEqual(error.most, 9)

    def test_no_words(self):
        for thing in no_words(2):
            self.assertIs(error_kind(hears_all, STILL, thing), NoWords, thing)


def by_figures(many):
    """The book with this number, by its figures with the base 4."""
    figures = "".join(str(many // 4 ** power % 4) for power in range(4))
    return {
        ((left,), (right,)): ((int(figures[2 * left + right]) // 2,), (int(figures[2 * left + right]) % 2,))
        for left in (0, 1) for right in (0, 1)
    }


class Numbered(unittest.TestCase):
    def test_all_books(self):
        for many in range(256):
            book = book_at(many)
            self.assertEqual(book, Book(2, 1, 1, by_figures(many)))
            self.assertEqual(number_of_book(book), many)

    def test_by_hand(self):
        # (0, 0) becomes (0, 0), (0, 1) becomes (0, 1) and so on: 0 + 4 + 32 + 192.
        self.assertEqual(book_at(228), Book(2, 1, 1, {}))
        self.assertEqual(number_of_book(STILL), 228)
        self.assertEqual(book_at(0).table(), {
            ((0,), (1,)): ((0,), (0,)), ((1,), (0,)): ((0,), (0,)), ((1,), (1,)): ((0,), (0,)),
        })
        self.assertEqual(number_of_book(by_function(2, 1, 1, lambda left, right: ((1,), (1,)))), 255)
        self.assertEqual(number_of_book(ONES), 230)
        self.assertEqual(book_at(231).table(), {((0,), (0,)): ((1,), (1,))})

    def test_all_are_unlike(self):
        books = [book_at(many) for many in range(256)]
        for at, book in enumerate(books):
            self.assertEqual(books.index(book), at)
            self.assertEqual(number_of_book(mirrored(mirrored(book))), at)

    def test_other_books_have_none(self):
        for sizes in itertools.product(range(1, 9), range(1, 5), range(1, 5)):
            if sizes != (2, 1, 1):
                self.assertIsNone(number_of_book(Book(*sizes, {})))
        self.assertIsNone(number_of_book(Book(3, 1, 1, ONES.table())))

    def test_no_number(self):
        for thing in no_integers() + [-1, 256, 257, 10 ** 40, -10 ** 40]:
            self.assertIs(error_kind(book_at, thing), NoNumber, thing)


class Shapes(unittest.TestCase):
    def some(self, seed, many):
        chance = random.Random(seed)
        for _ in range(many):
            words = chance.randint(1, 7)
            shapes = [chance.choice(all_shapes(words)) for _ in range(chance.choice((1, 2, 5, 9)))]
            for lengths in some_lengths(words, seed):
                yield lengths, shapes

    def test_numbers_two_by_two(self):
        for lengths, shapes in self.some(10, 40):
            self.assertEqual(numbers_of(lengths, shapes), [
                [number(lengths, one, other) for other in shapes] for one in shapes
            ])

    def test_the_least_reach(self):
        kinds = set()
        for lengths, shapes in self.some(11, 40):
            found = [number(lengths, one, other) for one in shapes for other in shapes if one != other]
            expected = max(found) + 1 if found else None
            self.assertEqual(least_reach(lengths, shapes), expected)
            kinds.add(expected is None)
            if expected is not None:
                for reach, alike in ((expected, False), (expected - 1, True)):
                    if reach >= 2:
                        self.assertIs(any(
                            alike_in_all(lengths, one, other, reach)
                            for one in shapes for other in shapes if one != other
                        ), alike)
        self.assertEqual(kinds, {True, False})

    def test_by_hand(self):
        lengths = (1, 2, 3, 1)
        shapes = [(0, 1, 2), (0, 2, 1), (0, 1, 2), (1, 2, 0)]
        self.assertEqual(numbers_of(lengths, shapes), [
            [None, 3, None, 3], [3, None, 3, 5], [None, 3, None, 3], [3, 5, 3, None],
        ])
        self.assertEqual(least_reach(lengths, shapes), 6)
        self.assertEqual(least_reach(lengths, [(0, 1, 2), (0, 1, 2)]), None)
        self.assertEqual(least_reach(lengths, [(0, 1, 2), (0, 2, 1)]), 4)

    def test_one_shape_and_one_word(self):
        self.assertEqual(numbers_of((5,), [(), ()]), [[None, None], [None, None]])
        self.assertIsNone(least_reach((5,), [()]))
        self.assertEqual(numbers_of((5, 5), [(0,)]), [[None]])

    def test_two_hundred_shapes_of_forty_words(self):
        shapes = [shape_of(tree) for tree in long_trees(200, 12)]
        for lengths in ((1,) * 40, (10 ** 6,) * 40):
            found = numbers_of(lengths, shapes)
            chance = random.Random(13)
            for _ in range(150):
                one, other = chance.randrange(200), chance.randrange(200)
                self.assertEqual(found[one][other], number(lengths, shapes[one], shapes[other]))
            greatest = max(value for row in found for value in row if value is not None)
            self.assertEqual(least_reach(lengths, shapes), greatest + 1)

    def test_lists_are_new(self):
        shapes = [(0, 1), (1, 0)]
        found = numbers_of((1, 2, 3), shapes)
        found[0].clear()
        found.pop()
        self.assertEqual(numbers_of((1, 2, 3), shapes), [[None, 2], [2, None]])
        twice = numbers_of((1, 2, 3), [(0, 1), (0, 1)])
        self.assertIsNot(twice[0], twice[1])
        self.assertEqual(shapes, [(0, 1), (1, 0)])

    def test_refused(self):
        for function in (numbers_of, least_reach):
            for thing in no_lengths():
                for shapes in ([()], None, []):
                    self.assertIs(error_kind(function, thing, shapes), NoLengths, thing)
            wrong = [thing for thing in odd_things() if thing != [0]] + [
                [], ((0, 1),), [(0, 1), ()], [(0, 1), (0,)], [(0, 1)] * 201, [(0, 1), [0, 1]], [(0, 1), None],
                {(0, 1): 1}, [(0, 1, 2)], [[(0, 1)]],
            ] + [[(0, 1), thing] for thing in no_shapes()]
            for thing in wrong:
                self.assertIs(error_kind(function, (1, 2, 3), thing), NoShapes, thing)
            self.assertIsNone(raised(function, (1, 2, 3), [(0, 1)] * 200))


if __name__ == "__main__":
    unittest.main()
