"""[11], [12]: books that part two shapes, which shapes are said alike, and pauses."""

import itertools
import random
import unittest

from heardseams.books import Book, by_function
from heardseams.errors import NoLengths, NoNumber, NoShape, NoShapes, TooLong, TooMany
from heardseams.numbers import alike_in_all, number
from heardseams.partings import heard_groups, parting, parts_them, pauses
from heardseams.saying import said
from heardseams.shapes import all_shapes, joined, regrouped, regroupings
from tests.helper import (
    distances, error_kind, full_book, left_comb, long_trees, no_integers, no_lengths, no_shapes, odd_things, raised,
    right_comb, say_by_hand, shape_of, some_lengths, trees, words_of, zigzag,
)

THREE = (1, 2, 3)
STILL = Book(2, 1, 1, {})
# Lengths with which the numbers of shapes come out as 1 to 8 and more.
SOME = (
    (1, 1, 1), (1, 2, 1), (2, 3, 1), (1, 4, 9), (1, 5, 1), (3, 6, 1), (1, 7, 1), (7, 7, 7), (1, 1, 1, 1), (1, 2, 1, 3),
    (5, 3, 4, 1), (1, 7, 7, 1), (2, 3, 3, 2), (1, 1, 1, 1, 1), (1, 2, 3, 4, 5), (1, 7, 2, 6, 1), (3, 3, 3, 3, 3),
    (1, 4, 2, 5, 3), (9, 5, 5, 5, 9),
)


def zeros(lengths):
    return tuple((0,) * length for length in lengths)


def said_unlike(book, lengths, one, other):
    return said(book, zeros(lengths), one) != said(book, zeros(lengths), other)


def far_walk(chance, lengths, shape, least, many):
    """A shape that regroupings with middles of at least so much lead to."""
    far = distances(lengths)
    for _ in range(many):
        steps = [step for step in regroupings(shape) if far[min(step), max(step)] >= least]
        if steps:
            shape = regrouped(shape, *chance.choice(steps))
    return shape


def by_sizes(ahead, behind):
    """A book whose answers hang on how many sounds it sees, and on what they are."""
    def told(left, right):
        sounds = left + right
        new = tuple((sounds[at] + len(left) * at + len(right) + sum(sounds)) % 2 for at in range(len(sounds)))
        return new[:len(left)], new[len(left):]

    return by_function(2, ahead, behind, told)


class Parting(unittest.TestCase):
    def check(self, lengths, one, other):
        least = number(lengths, one, other)
        book = parting(lengths, one, other)
        self.assertIs(book.__class__, Book)
        self.assertEqual((book.sounds(), book.reach()), (2, least + 1))
        self.assertTrue(said_unlike(book, lengths, one, other))
        self.assertIs(parts_them(book, lengths, one, other), True)
        self.assertEqual(parting(lengths, one, other), book)
        return least

    def test_all_shapes_of_a_few_words(self):
        numbers = set()
        for lengths in SOME:
            for one, other in itertools.permutations(all_shapes(len(lengths)), 2):
                if number(lengths, one, other) <= 7:
                    numbers.add(self.check(lengths, one, other))
                else:
                    self.assertIs(error_kind(parting, lengths, one, other), TooLong)
        self.assertEqual(numbers, set(range(1, 8)))

    def test_by_hand_too(self):
        for lengths in SOME[:12]:
            for one, other in itertools.combinations(trees(0, len(lengths) - 1), 2):
                if number(lengths, shape_of(one), shape_of(other)) <= 7:
                    book = parting(lengths, shape_of(one), shape_of(other))
                    self.assertNotEqual(say_by_hand(book, zeros(lengths), one), say_by_hand(book, zeros(lengths), other))

    def test_rows_of_all_kinds_of_six_words(self):
        chance = random.Random(1)
        shapes = all_shapes(6)
        for _ in range(400):
            lengths = tuple(chance.randint(1, 5) for _ in range(6))
            one = chance.choice(shapes)
            other = far_walk(chance, lengths, one, chance.randint(1, 7), 6)
            if one != other and number(lengths, one, other) <= 7:
                self.check(lengths, one, other)

    def test_forty_words(self):
        chance = random.Random(2)
        numbers = set()
        for tree in long_trees(12, 3):
            for most in (1, 2, 3, 7, 40):
                lengths = tuple(chance.randint(1, most) for _ in range(40))
                for least in (1, 3, 5, 6, 7):
                    other = far_walk(chance, lengths, shape_of(tree), least, 40)
                    if other != shape_of(tree) and number(lengths, shape_of(tree), other) <= 7:
                        numbers.add(self.check(lengths, shape_of(tree), other))
        self.assertEqual(numbers, set(range(1, 8)))

    def test_long_words(self):
        lengths = (10 ** 6, 3, 10 ** 6, 1, 10 ** 6)
        for one, other in itertools.permutations(all_shapes(5), 2):
            least = number(lengths, one, other)
            if least <= 7:
                book = parting(lengths, one, other)
                self.assertEqual((book.sounds(), book.reach()), (2, least + 1))
                # No joining looks at more than four sounds of a word from one side.
                self.assertTrue(said_unlike(book, (9, 3, 9, 1, 9), one, other))
            else:
                self.assertIs(error_kind(parting, lengths, one, other), TooLong)

    def test_equal_shapes(self):
        self.assertIsNone(parting((5,), (), ()))
        self.assertIsNone(parting(THREE, (0, 1), (0, 1)))
        self.assertIsNone(parting((10 ** 6,) * 40, zigzag(40), zigzag(40)))

    def test_too_long(self):
        for middle in (8, 9, 10 ** 6):
            error = raised(parting, (1, middle, 1), (0, 1), (1, 0))
            self.assertIs(error.__class__, TooLong)
            self.assertEqual(error.most, 8)
        self.assertEqual(parting((1, 7, 1), (0, 1), (1, 0)).reach(), 8)

    def test_main_fact(self):
        chance = random.Random(4)
        for lengths in SOME[:14]:
            books = [
                full_book(chance, 2, ahead, behind) for ahead in (1, 2, 3) for behind in (1, 2, 3)
            ] + [by_sizes(ahead, behind) for ahead in (1, 2, 4) for behind in (1, 3, 4)]
            for one, other in itertools.combinations(all_shapes(len(lengths)), 2):
                least = number(lengths, one, other)
                for book in books:
                    if book.reach() <= least:
                        self.assertIs(alike_in_all(lengths, one, other, book.reach()), True)
                        self.assertIs(parts_them(book, lengths, one, other), False)
                if least <= 7:
                    self.assertIs(alike_in_all(lengths, one, other, least + 1), False)


class PartsThem(unittest.TestCase):
    def test_against_said(self):
        chance = random.Random(5)
        found = set()
        for lengths in SOME:
            for book in (full_book(chance, 2, 1, 2), by_sizes(3, 2), full_book(chance, 3, 2, 1), STILL):
                for one, other in itertools.product(all_shapes(len(lengths)), repeat=2):
                    unlike = said_unlike(book, lengths, one, other)
                    self.assertIs(parts_them(book, lengths, one, other), unlike)
                    found.add(unlike)
        self.assertEqual(found, {True, False})

    def test_words_longer_than_words_are_elsewhere(self):
        book = by_sizes(1, 1)
        self.assertIs(parts_them(book, (1000, 1, 1000), (0, 1), (1, 0)), said_unlike(book, (9, 1, 9), (0, 1), (1, 0)))
        self.assertIs(parts_them(STILL, (4000,), (), ()), False)

    def test_four_thousand_sounds(self):
        book = parting((1, 1, 1), (0, 1), (1, 0))
        self.assertIs(parts_them(book, (1999, 1, 2000), (0, 1), (1, 0)), True)
        for lengths in ((2000, 1, 2000), (1, 4000, 1), (10 ** 6,) * 3):
            error = raised(parts_them, book, lengths, (0, 1), (1, 0))
            self.assertIs(error.__class__, TooMany)
            self.assertEqual(error.most, 4000)
        self.assertIs(error_kind(parts_them, book, (4001,), (), ()), TooMany)
        self.assertIs(error_kind(parts_them, book, (101,) * 40, zigzag(40), zigzag(40)), TooMany)
        self.assertIs(parts_them(book, (100,) * 40, zigzag(40), zigzag(40)), False)


class HeardGroups(unittest.TestCase):
    def by_hand(self, book, lengths, shapes):
        rows = [said(book, zeros(lengths), shape) for shape in shapes]
        return [
            tuple(at for at, row in enumerate(rows) if row == first)
            for number_of, first in enumerate(rows) if rows.index(first) == number_of
        ]

    def test_against_said(self):
        chance = random.Random(6)
        for lengths in SOME:
            shapes = all_shapes(len(lengths))
            for book in (full_book(chance, 2, 1, 2), by_sizes(2, 3), full_book(chance, 3, 1, 1), STILL):
                some = [chance.choice(shapes) for _ in range(25)]
                self.assertEqual(heard_groups(book, lengths, some), self.by_hand(book, lengths, some))
                self.assertEqual(heard_groups(book, lengths, shapes), self.by_hand(book, lengths, shapes))

    def test_two_hundred_shapes_of_forty_words(self):
        shapes = [shape_of(tree) for tree in long_trees(100, 7)] * 2
        for book in (by_sizes(1, 1), by_sizes(4, 4), STILL):
            self.assertEqual(heard_groups(book, (5,) * 40, shapes), self.by_hand(book, (5,) * 40, shapes))

    def test_one_shape(self):
        self.assertEqual(heard_groups(STILL, (4000,), [()]), [(0,)])
        self.assertEqual(heard_groups(STILL, THREE, [(0, 1), (1, 0), (0, 1)]), [(0, 1, 2)])
        book = parting(THREE, (0, 1), (1, 0))
        self.assertEqual(heard_groups(book, THREE, [(0, 1), (1, 0), (0, 1)]), [(0, 2), (1,)])

    def test_four_thousand_sounds(self):
        book = parting((1, 1, 1), (0, 1), (1, 0))
        self.assertEqual(heard_groups(book, (1999, 1, 2000), [(0, 1), (1, 0)]), [(0,), (1,)])
        for lengths in ((2000, 1, 2000), (10 ** 6,) * 3):
            error = raised(heard_groups, book, lengths, [(0, 1), (1, 0)])
            self.assertIs(error.__class__, TooMany)
            self.assertEqual(error.most, 4000)

    def test_a_list_is_new(self):
        found = heard_groups(STILL, THREE, [(0, 1), (1, 0)])
        found.append(1)
        self.assertEqual(heard_groups(STILL, THREE, [(0, 1), (1, 0)]), [(0, 1)])


class Pauses(unittest.TestCase):
    def by_hand(self, lengths, tree, cap):
        if isinstance(tree, int):
            return []
        sizes = [sum(lengths[word] for word in words_of(part)) for part in tree]
        here = [(min(sizes[0], cap), min(sizes[1], cap))]
        return self.by_hand(lengths, tree[0], cap) + here + self.by_hand(lengths, tree[1], cap)

    def test_all_trees_of_a_few_words(self):
        for words in range(1, 7):
            for lengths in some_lengths(words, 8):
                for tree in trees(0, words - 1):
                    for cap in (1, 2, 3, 5, 45, 10 ** 6, 10 ** 6 + 1, 10 ** 9):
                        self.assertEqual(pauses(lengths, shape_of(tree), cap), self.by_hand(lengths, tree, cap))

    def test_forty_words(self):
        for lengths in some_lengths(40, 9):
            for tree in long_trees(5, 10):
                for cap in (1, 7, 10 ** 6, 10 ** 9):
                    self.assertEqual(pauses(lengths, shape_of(tree), cap), self.by_hand(lengths, tree, cap))

    def test_sizes_of_the_phrases_of_each_seam(self):
        lengths = (3, 1, 4, 1, 5)
        for shape in all_shapes(5):
            found = []
            for seam in range(4):
                first, last = joined(shape, seam)
                found.append((sum(lengths[first:seam + 1]), sum(lengths[seam + 1:last + 1])))
            self.assertEqual(pauses(lengths, shape, 10 ** 9), found)
            self.assertEqual(pauses(lengths, shape, 4), [(min(a, 4), min(b, 4)) for a, b in found])

    def test_ends(self):
        self.assertEqual(pauses((5,), (), 1), [])
        self.assertEqual(pauses((5, 6), (0,), 5), [(5, 5)])
        self.assertEqual(pauses((5, 6), (0,), 6), [(5, 6)])
        self.assertEqual(pauses((10 ** 6,) * 40, right_comb(40), 10 ** 9)[0], (10 ** 6, 39 * 10 ** 6))

    def test_fact_the_same_pauses_exactly_if_equal_or_the_cap_is_at_most_the_number(self):
        for words in range(1, 7):
            for lengths in some_lengths(words, 11) + [(2, 1, 3, 1, 2, 4)[:words]]:
                shapes = all_shapes(words)
                for one, other in itertools.product(shapes, shapes[::3]):
                    least = number(lengths, one, other)
                    caps = {1, 10 ** 9} if least is None else {1, max(1, least - 1), least, least + 1, 10 ** 9}
                    for cap in caps:
                        same = pauses(lengths, one, cap) == pauses(lengths, other, cap)
                        self.assertIs(same, least is None or cap <= least)

    def test_the_fact_for_forty_words(self):
        chance = random.Random(12)
        for lengths in some_lengths(40, 13):
            for tree in long_trees(4, 14):
                one = shape_of(tree)
                for far in (1, 3, 100, 10 ** 6):
                    other = far_walk(chance, lengths, one, far, 10)
                    least = number(lengths, one, other)
                    if least is not None:
                        self.assertEqual(pauses(lengths, one, least), pauses(lengths, other, least))
                        self.assertNotEqual(pauses(lengths, one, least + 1), pauses(lengths, other, least + 1))

    def test_a_list_is_new(self):
        found = pauses((5, 6), (0,), 5)
        found.append(1)
        self.assertEqual(pauses((5, 6), (0,), 5), [(5, 5)])
        pauses((5,), (), 5).append(1)
        self.assertEqual(pauses((5,), (), 5), [])


class Refused(unittest.TestCase):
    def test_no_lengths(self):
        for thing in no_lengths():
            for rest in (((0, 1), (1, 0)), (None, None), (thing, thing)):
                self.assertIs(error_kind(parting, thing, *rest), NoLengths)
                self.assertIs(error_kind(parts_them, STILL, thing, *rest), NoLengths)
                self.assertIs(error_kind(pauses, thing, *rest), NoLengths)
            self.assertIs(error_kind(heard_groups, STILL, thing, [(0, 1)]), NoLengths)
            self.assertIs(error_kind(heard_groups, STILL, thing, None), NoLengths)

    def test_no_shape(self):
        for thing in no_shapes() + [(), (0,), (1, 0, 1), left_comb(40)]:
            for other in ((0, 1), None, thing):
                self.assertIs(error_kind(parting, THREE, thing, other), NoShape)
                self.assertIs(error_kind(parts_them, STILL, THREE, thing, other), NoShape)
                self.assertIs(error_kind(parts_them, STILL, (10 ** 6,) * 3, thing, other), NoShape)
            self.assertIs(error_kind(parting, THREE, (0, 1), thing), NoShape)
            self.assertIs(error_kind(parting, (1, 8, 1), (0, 1), thing), NoShape)
            self.assertIs(error_kind(parts_them, STILL, (10 ** 6,) * 3, (0, 1), thing), NoShape)
            self.assertIs(error_kind(pauses, THREE, thing, 1), NoShape)
            self.assertIs(error_kind(pauses, THREE, thing, None), NoShape)

    def test_no_shapes(self):
        wrong = odd_things() + [
            ((0, 1),), [(0, 1)] * 201, [(0, 1), (0,)], [()], [(0, 1), None], [(0, 1), [0, 1]], {0: (0, 1)},
        ] + [[thing] for thing in no_shapes()]
        for thing in wrong:
            self.assertIs(error_kind(heard_groups, STILL, THREE, thing), NoShapes, thing)
            self.assertIs(error_kind(heard_groups, STILL, (10 ** 6,) * 3, thing), NoShapes, thing)

    def test_no_number(self):
        for thing in no_integers() + [0, -1, 10 ** 9 + 1, 10 ** 40, -10 ** 40]:
            self.assertIs(error_kind(pauses, THREE, (0, 1), thing), NoNumber)


if __name__ == "__main__":
    unittest.main()
