"""[6]: how many shapes there are, their order and their indexes."""

import random
import unittest

from heardseams.errors import NoNumber, NoShape
from heardseams.shapes import all_shapes, is_shape, shape_at, shape_number, shapes_many, turned
from tests.helper import error_kind, left_comb, long_trees, no_integers, no_shapes, right_comb, shape_of, trees

MANY_40 = 680425371729975800390


class Many(unittest.TestCase):
    def test_small_numbers(self):
        self.assertEqual([shapes_many(words) for words in range(1, 11)], [1, 1, 2, 5, 14, 42, 132, 429, 1430, 4862])

    def test_each_is_the_sum_over_the_outermost_seams(self):
        for words in range(2, 41):
            total = sum(shapes_many(ahead) * shapes_many(words - ahead) for ahead in range(1, words))
            self.assertEqual(shapes_many(words), total)

    def test_forty_words(self):
        self.assertEqual(shapes_many(40), MANY_40)

    def test_no_number(self):
        for thing in no_integers() + [0, -1, 41, 10 ** 40]:
            self.assertIs(error_kind(shapes_many, thing), NoNumber)


class AllShapes(unittest.TestCase):
    def test_all_in_order(self):
        for words in range(1, 10):
            self.assertEqual(all_shapes(words), [shape_of(tree) for tree in trees(0, words - 1)])

    def test_examples(self):
        self.assertEqual(all_shapes(1), [()])
        self.assertEqual(all_shapes(2), [(0,)])
        self.assertEqual(all_shapes(3), [(0, 1), (1, 0)])
        self.assertEqual(all_shapes(4), [(0, 1, 2), (0, 2, 1), (1, 0, 1), (1, 2, 0), (2, 1, 0)])

    def test_as_many_as_there_are(self):
        for words in range(1, 10):
            self.assertEqual(len(all_shapes(words)), shapes_many(words))

    def test_no_number(self):
        for thing in no_integers() + [0, -1, 10, 11, 40, 10 ** 40]:
            self.assertIs(error_kind(all_shapes, thing), NoNumber)


class Indexes(unittest.TestCase):
    def test_there_and_back_in_order(self):
        for words in range(1, 10):
            for number, shape in enumerate(all_shapes(words)):
                self.assertEqual(shape_at(words, number), shape)
                self.assertEqual(shape_number(shape), number)

    def test_the_first_and_the_last(self):
        for words in range(1, 41):
            self.assertEqual(shape_at(words, 0), right_comb(words))
            self.assertEqual(shape_at(words, shapes_many(words) - 1), left_comb(words))
            self.assertEqual(shape_number(right_comb(words)), 0)
            self.assertEqual(shape_number(left_comb(words)), shapes_many(words) - 1)

    def test_indexes_of_any_size_at_forty_words(self):
        chance = random.Random(4)
        numbers = [10 ** k for k in range(21)] + [MANY_40 // k for k in range(2, 40)]
        numbers += [chance.randrange(MANY_40) for _ in range(200)]
        for number in numbers:
            shape = shape_at(40, number)
            self.assertEqual(len(shape), 39)
            self.assertTrue(is_shape(shape))
            self.assertEqual(shape_number(shape), number)

    def test_shapes_of_forty_words_there_and_back(self):
        for tree in long_trees(50, 9):
            shape = shape_of(tree)
            self.assertEqual(shape_at(40, shape_number(shape)), shape)

    def test_the_order_of_forty_words(self):
        self.assertEqual(shape_at(40, 1), right_comb(40)[:-2] + (38, 37))
        self.assertEqual(shape_at(40, shapes_many(39)), (1, 0) + tuple(range(1, 38)))
        self.assertEqual(shape_at(40, MANY_40 - 2), (37, 38) + left_comb(40)[2:])
        self.assertEqual(shape_at(40, MANY_40 - shapes_many(39)), right_comb(40)[1:] + (0,))

    def test_number_after_turning_within_bounds(self):
        for tree in long_trees(5, 2):
            self.assertTrue(0 <= shape_number(turned(shape_of(tree))) < MANY_40)

    def test_no_number_for_words(self):
        for thing in no_integers() + [0, -1, 41, 10 ** 40]:
            self.assertIs(error_kind(shape_at, thing, 0), NoNumber)

    def test_no_number_for_the_index(self):
        for thing in no_integers() + [-1, 5, 6, 10 ** 40, -10 ** 40]:
            self.assertIs(error_kind(shape_at, 4, thing), NoNumber)
        self.assertIs(error_kind(shape_at, 1, 1), NoNumber)
        self.assertIs(error_kind(shape_at, 1, False), NoNumber)
        self.assertIs(error_kind(shape_at, 40, MANY_40), NoNumber)

    def test_no_shape(self):
        for thing in no_shapes():
            self.assertIs(error_kind(shape_number, thing), NoShape)


if __name__ == "__main__":
    unittest.main()
