"""[8]: places, seams that stand unlike, the number, middles."""

import random
import unittest

from heardseams.errors import NoLengths, NoShape
from heardseams.numbers import middles, number, places, unlike
from heardseams.shapes import all_shapes, regroupings, shape_at, shapes_many, stands
from tests.helper import (
    error_kind, left_comb, long_trees, no_lengths, no_shapes, right_comb, shape_of, some_lengths,
    standing, trees,
)

MOST = 10 ** 6


def unlike_by_trees(lengths, one, other):
    found = []
    for p in range(len(lengths) - 1):
        for q in range(p + 1, len(lengths) - 1):
            if standing(one, p, q) != standing(other, p, q):
                found.append((sum(lengths[p + 1:q + 1]), p, q))
    return sorted(found)


class Places(unittest.TestCase):
    def test_sums_of_the_lengths(self):
        self.assertEqual(places((5,)), ())
        self.assertEqual(places((5, 7)), (5,))
        self.assertEqual(places((1, 1, 1, 1)), (1, 2, 3))
        self.assertEqual(places((3, 1, 4, 1, 5)), (3, 4, 8, 9))

    def test_the_last_word_does_not_count(self):
        self.assertEqual(places((1, 2, 3)), places((1, 2, 10 ** 6)))

    def test_forty_words(self):
        self.assertEqual(places((1,) * 40), tuple(range(1, 40)))
        self.assertEqual(places((MOST,) * 40), tuple(range(MOST, 40 * MOST, MOST)))

    def test_no_lengths(self):
        for thing in no_lengths():
            self.assertIs(error_kind(places, thing), NoLengths, thing)


class Unlike(unittest.TestCase):
    def test_every_two_shapes(self):
        for words in range(1, 6):
            for lengths in some_lengths(words, 1):
                for one in trees(0, words - 1):
                    for other in trees(0, words - 1):
                        found = unlike(lengths, shape_of(one), shape_of(other))
                        self.assertEqual(found, unlike_by_trees(lengths, one, other))

    def test_an_example(self):
        self.assertEqual(unlike((1, 1, 1, 1), (1, 2, 0), (0, 2, 1)), [(2, 0, 2)])
        self.assertEqual(unlike((9, 2, 3, 9), (0, 1, 2), (2, 1, 0)), [(2, 0, 1), (3, 1, 2), (5, 0, 2)])
        self.assertEqual(unlike((9, 3, 2, 9), (0, 1, 2), (2, 1, 0)), [(2, 1, 2), (3, 0, 1), (5, 0, 2)])

    def test_over_and_neither_are_unlike_too(self):
        self.assertEqual(unlike((1, 1, 1, 1), (1, 0, 1), (0, 1, 2)), [(1, 0, 1), (2, 0, 2)])

    def test_forty_words(self):
        long = long_trees(6, 3)
        for lengths in some_lengths(40, 2):
            for one, other in zip(long, long[1:]):
                found = unlike(lengths, shape_of(one), shape_of(other))
                self.assertEqual(found, unlike_by_trees(lengths, one, other))

    def test_all_seams_of_opposite_shapes(self):
        found = unlike((1,) * 40, left_comb(40), right_comb(40))
        self.assertEqual(found, sorted((q - p, p, q) for q in range(39) for p in range(q)))

    def test_equal_shapes(self):
        self.assertEqual(unlike((4,), (), ()), [])
        self.assertEqual(unlike((4, 4), (0,), (0,)), [])
        for tree in long_trees(3, 5):
            self.assertEqual(unlike((1,) * 40, shape_of(tree), shape_of(tree)), [])


class Number(unittest.TestCase):
    def test_the_example_of_the_document(self):
        self.assertEqual(number((1, 1, 1, 1), (1, 2, 0), (0, 2, 1)), 2)

    def test_the_first_distance_of_the_unlike_seams(self):
        for words in range(2, 7):
            shapes = all_shapes(words)
            for lengths in some_lengths(words, 3):
                for one in shapes:
                    for other in shapes:
                        if one != other:
                            found = unlike(lengths, one, other)
                            self.assertEqual(number(lengths, one, other), min(found)[0])
                            self.assertEqual(number(lengths, other, one), min(found)[0])

    def test_places_unlike_and_number_at_forty_words(self):
        chance = random.Random(11)
        for lengths in some_lengths(40, 4):
            spots = places(lengths)
            one, other = [shape_at(40, chance.randrange(shapes_many(40))) for _ in range(2)]
            for distance, p, q in unlike(lengths, one, other):
                self.assertEqual(distance, spots[q] - spots[p])
                self.assertNotEqual(stands(one, p, q), stands(other, p, q))
            self.assertEqual(number(lengths, one, other), unlike(lengths, one, other)[0][0])

    def test_none_for_equal_shapes(self):
        for words in range(1, 6):
            for shape in all_shapes(words):
                self.assertIsNone(number((2,) * words, shape, shape))
        self.assertIsNone(number((1,) * 40, left_comb(40), left_comb(40)))

    def test_lengths_from_1_to_a_million(self):
        self.assertEqual(number((1, 1, 1), (0, 1), (1, 0)), 1)
        self.assertEqual(number((1, MOST, 1), (0, 1), (1, 0)), MOST)
        self.assertEqual(number((MOST,) * 4, (1, 2, 0), (0, 2, 1)), 2 * MOST)
        self.assertIs(error_kind(number, (1, MOST + 1, 1), (0, 1), (1, 0)), NoLengths)
        self.assertIs(error_kind(number, (1, 0, 1), (0, 1), (1, 0)), NoLengths)

    def test_the_greatest_number(self):
        one = (1,) + tuple(range(2, 39)) + (0,)
        other = (0,) + tuple(range(2, 39)) + (1,)
        self.assertEqual(number((MOST,) * 40, one, other), 38 * MOST)


class Middles(unittest.TestCase):
    def test_every_shape(self):
        for words in range(1, 7):
            for lengths in some_lengths(words, 5):
                spots = places(lengths)
                for shape in all_shapes(words):
                    found = sorted((abs(spots[p] - spots[q]), p, q) for p, q in regroupings(shape))
                    self.assertEqual(middles(lengths, shape), found)

    def test_examples(self):
        self.assertEqual(middles((7,), ()), [])
        self.assertEqual(middles((1, 5, 2, 1), (1, 2, 0)), [(5, 0, 1), (7, 2, 0)])
        self.assertEqual(middles((1, 5, 2, 1), (2, 1, 0)), [(2, 2, 1), (5, 1, 0)])

    def test_forty_words(self):
        self.assertEqual(middles((3,) * 40, right_comb(40)), [(3, seam, seam + 1) for seam in range(38)])
        self.assertEqual(middles((3,) * 40, left_comb(40)), [(3, seam + 1, seam) for seam in range(38)])


class Refused(unittest.TestCase):
    def test_no_lengths_comes_first(self):
        for thing in no_lengths():
            self.assertIs(error_kind(unlike, thing, (0,), (0,)), NoLengths)
            self.assertIs(error_kind(number, thing, (0,), (0,)), NoLengths)
            self.assertIs(error_kind(middles, thing, (0,)), NoLengths)
            self.assertIs(error_kind(unlike, thing, None, None), NoLengths)
            self.assertIs(error_kind(number, thing, None, None), NoLengths)
            self.assertIs(error_kind(middles, thing, None), NoLengths)

    def test_no_shape(self):
        for thing in no_shapes() + [(), (0,), (1, 0, 1)]:
            self.assertIs(error_kind(unlike, (1, 2, 3), thing, (0, 1)), NoShape)
            self.assertIs(error_kind(unlike, (1, 2, 3), (0, 1), thing), NoShape)
            self.assertIs(error_kind(number, (1, 2, 3), thing, (0, 1)), NoShape)
            self.assertIs(error_kind(number, (1, 2, 3), (0, 1), thing), NoShape)
            self.assertIs(error_kind(middles, (1, 2, 3), thing), NoShape)

    def test_equal_shapes_of_another_number_of_words(self):
        self.assertIs(error_kind(number, (1, 2, 3), (0,), (0,)), NoShape)
        self.assertIs(error_kind(unlike, (1, 2, 3), (), ()), NoShape)


if __name__ == "__main__":
    unittest.main()
