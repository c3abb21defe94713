"""[7]: regroupings."""

import unittest

from heardseams.errors import NoShape, NoStep
from heardseams.shapes import is_shape, joined, regrouped, regroupings, stands
from tests.helper import (
    error_kind, left_comb, long_trees, no_integers, no_shapes, right_comb, rotations, shape_of, trees,
)

SMALL = [tree for words in range(1, 8) for tree in trees(0, words - 1)]
LONG = long_trees(8, 7)


class Regroupings(unittest.TestCase):
    def test_every_shape(self):
        for tree in SMALL + LONG:
            self.assertEqual(regroupings(shape_of(tree)), sorted(rotations(tree)))

    def test_examples(self):
        self.assertEqual(regroupings(()), [])
        self.assertEqual(regroupings((0,)), [])
        self.assertEqual(regroupings((1, 0)), [(1, 0)])
        self.assertEqual(regroupings((1, 2, 0)), [(0, 1), (2, 0)])
        self.assertEqual(regroupings((1, 0, 1)), [(1, 0), (1, 2)])

    def test_forty_words(self):
        self.assertEqual(regroupings(right_comb(40)), [(seam, seam + 1) for seam in range(38)])
        self.assertEqual(regroupings(left_comb(40)), [(seam + 1, seam) for seam in range(38)])

    def test_one_less_than_there_are_seams(self):
        for tree in LONG:
            self.assertEqual(len(regroupings(shape_of(tree))), 38)

    def test_directly_over_is_over_with_none_between_in_depth(self):
        for tree in SMALL:
            shape = shape_of(tree)
            seams = range(len(shape))
            over = {(p, q) for p in seams for q in seams if p != q and stands(shape, p, q) == "over"}
            direct = [(p, q) for p, q in over if not any((p, k) in over and (k, q) in over for k in seams)]
            self.assertEqual(regroupings(shape), sorted(direct))

    def test_no_shape(self):
        for thing in no_shapes():
            self.assertIs(error_kind(regroupings, thing), NoShape)


class Regrouped(unittest.TestCase):
    def test_every_regrouping(self):
        for tree in SMALL + LONG:
            for (one, other), behind in rotations(tree).items():
                self.assertEqual(regrouped(shape_of(tree), one, other), shape_of(behind))

    def test_examples(self):
        self.assertEqual(regrouped((1, 0), 1, 0), (0, 1))
        self.assertEqual(regrouped((0, 1), 0, 1), (1, 0))
        self.assertEqual(regrouped((1, 2, 0), 2, 0), (0, 2, 1))

    def test_there_and_back(self):
        for tree in SMALL + LONG:
            shape = shape_of(tree)
            for one, other in regroupings(shape):
                behind = regrouped(shape, one, other)
                self.assertNotEqual(behind, shape)
                self.assertIn((other, one), regroupings(behind))
                self.assertEqual(regrouped(behind, other, one), shape)

    def test_the_phrases_of_all_other_seams_stay(self):
        for tree in LONG:
            shape = shape_of(tree)
            for one, other in regroupings(shape):
                behind = regrouped(shape, one, other)
                self.assertTrue(is_shape(behind))
                self.assertEqual(joined(behind, other), joined(shape, one))
                for seam in range(39):
                    if seam not in (one, other):
                        self.assertEqual(joined(behind, seam), joined(shape, seam))

    def test_no_step_for_every_other_pair(self):
        for tree in SMALL:
            shape = shape_of(tree)
            steps = rotations(tree)
            for one in range(-1, len(shape) + 1):
                for other in range(-1, len(shape) + 1):
                    if (one, other) not in steps:
                        self.assertIs(error_kind(regrouped, shape, one, other), NoStep)

    def test_no_step_for_other_kinds(self):
        for thing in no_integers() + [-1, 2, 10 ** 40, -10 ** 40]:
            self.assertIs(error_kind(regrouped, (1, 0), thing, 0), NoStep)
            self.assertIs(error_kind(regrouped, (1, 0), 1, thing), NoStep)
            self.assertIs(error_kind(regrouped, (1, 0), thing, thing), NoStep)
        self.assertIs(error_kind(regrouped, (0, 1), False, True), NoStep)
        self.assertIs(error_kind(regrouped, (0, 1), 0, True), NoStep)

    def test_no_step_over_the_outermost_seam(self):
        for seam in (0, 1, None, -1):
            self.assertIs(error_kind(regrouped, (1, 0), seam, 1), NoStep)
        self.assertIs(error_kind(regrouped, (), None, None), NoStep)

    def test_no_step_at_forty_words(self):
        self.assertIs(error_kind(regrouped, right_comb(40), 0, 2), NoStep)
        self.assertIs(error_kind(regrouped, right_comb(40), 38, 39), NoStep)
        self.assertIs(error_kind(regrouped, right_comb(40), 38, 37), NoStep)
        self.assertEqual(regrouped(right_comb(40), 37, 38), right_comb(40)[:-2] + (38, 37))

    def test_no_shape(self):
        for thing in no_shapes():
            self.assertIs(error_kind(regrouped, thing, 1, 0), NoShape)
            self.assertIs(error_kind(regrouped, thing, None, None), NoShape)


if __name__ == "__main__":
    unittest.main()
