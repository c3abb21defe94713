"""[6]: what a shape is, and what it tells of seams and phrases."""

import unittest

from heardseams.errors import NoPart, NoSeam, NoShape, TooMany
from heardseams.shapes import (
    all_shapes, is_shape, joined, joined_shape, outermost, part_of, shapes_many, stands, turned,
)
from tests.helper import (
    error_kind, left_comb, long_trees, no_integers, no_shapes, phrases, raised, right_comb, shape_of, standing,
    trees, words_of, zigzag,
)

SMALL = [tree for words in range(1, 8) for tree in trees(0, words - 1)]
LONG = long_trees(12, 6)
ALL = SMALL + LONG


class IsShape(unittest.TestCase):
    def test_shapes_are_shapes(self):
        for tree in ALL:
            self.assertIs(is_shape(shape_of(tree)), True)

    def test_one_word_and_forty_words(self):
        for words in (1, 2, 39, 40):
            for make in (left_comb, right_comb, zigzag):
                self.assertIs(is_shape(make(words)), True)

    def test_other_things_are_none(self):
        for thing in no_shapes():
            self.assertIs(is_shape(thing), False, thing)

    def test_just_the_shapes_among_all_rows_of_small_numbers(self):
        for seams in range(6):
            rows = [()]
            for _ in range(seams):
                rows = [row + (depth,) for row in rows for depth in range(-1, seams + 1)]
            right = {shape_of(tree) for tree in trees(0, seams)}
            for row in rows:
                self.assertIs(is_shape(row), row in right, row)

    def test_a_flag_is_no_depth_anywhere(self):
        for words in range(2, 7):
            for tree in trees(0, words - 1):
                shape = shape_of(tree)
                for seam, depth in enumerate(shape):
                    if depth < 2:
                        self.assertIs(is_shape(shape[:seam] + (bool(depth),) + shape[seam + 1:]), False)

    def test_a_list_is_none(self):
        for tree in ALL:
            self.assertIs(is_shape(list(shape_of(tree))), False)


class Outermost(unittest.TestCase):
    def test_none_for_one_word(self):
        self.assertIsNone(outermost(()))

    def test_the_place_of_the_zero(self):
        self.assertEqual(outermost((1, 0, 1)), 1)
        self.assertEqual(outermost((0, 1)), 0)
        for tree in ALL:
            if isinstance(tree, tuple):
                self.assertEqual(outermost(shape_of(tree)), words_of(tree[0])[-1])

    def test_forty_words(self):
        self.assertEqual(outermost(left_comb(40)), 38)
        self.assertEqual(outermost(right_comb(40)), 0)

    def test_no_shape(self):
        for thing in no_shapes():
            self.assertIs(error_kind(outermost, thing), NoShape)


class Joined(unittest.TestCase):
    def test_the_ends_of_the_phrase(self):
        for tree in ALL:
            for seam, (first, last, _) in phrases(tree).items():
                self.assertEqual(joined(shape_of(tree), seam), (first, last))

    def test_examples(self):
        self.assertEqual(joined((1, 2, 0), 0), (0, 2))
        self.assertEqual(joined((1, 2, 0), 1), (1, 2))
        self.assertEqual(joined((1, 2, 0), 2), (0, 3))

    def test_no_shape(self):
        for thing in no_shapes():
            self.assertIs(error_kind(joined, thing, 0), NoShape)
            self.assertIs(error_kind(joined, thing, None), NoShape)

    def test_no_seam(self):
        for thing in no_integers() + [-1, -2, 3, 4, 10 ** 40, -10 ** 40]:
            self.assertIs(error_kind(joined, (1, 0, 1), thing), NoSeam)
        self.assertIs(error_kind(joined, (), 0), NoSeam)
        self.assertIs(error_kind(joined, left_comb(40), 39), NoSeam)
        self.assertEqual(joined(left_comb(40), 38), (0, 39))


class Stands(unittest.TestCase):
    def test_every_pair_of_seams(self):
        for tree in ALL:
            shape = shape_of(tree)
            for one in range(len(shape)):
                for other in range(len(shape)):
                    if one != other:
                        self.assertEqual(stands(shape, one, other), standing(tree, one, other))

    def test_examples(self):
        self.assertEqual(stands((1, 0, 1), 1, 0), "over")
        self.assertEqual(stands((1, 0, 1), 2, 1), "under")
        self.assertEqual(stands((1, 0, 1), 0, 2), "neither")

    def test_over_is_a_phrase_within_the_other(self):
        for tree in LONG:
            shape = shape_of(tree)
            for one in range(39):
                first, last = joined(shape, one)
                inside = [seam for seam in range(39) if seam != one and stands(shape, one, seam) == "over"]
                self.assertEqual(inside, [seam for seam in range(first, last) if seam != one])

    def test_no_shape(self):
        for thing in no_shapes():
            self.assertIs(error_kind(stands, thing, 0, 1), NoShape)
            self.assertIs(error_kind(stands, thing, None, None), NoShape)

    def test_no_seam(self):
        for thing in no_integers() + [-1, 3, 10 ** 40]:
            self.assertIs(error_kind(stands, (1, 0, 1), thing, 0), NoSeam)
            self.assertIs(error_kind(stands, (1, 0, 1), 0, thing), NoSeam)
            self.assertIs(error_kind(stands, (1, 0, 1), thing, thing), NoSeam)

    def test_a_seam_does_not_stand_to_itself(self):
        for seam in range(3):
            self.assertIs(error_kind(stands, (1, 0, 1), seam, seam), NoSeam)

    def test_one_word_has_no_seams(self):
        self.assertIs(error_kind(stands, (), 0, 1), NoSeam)


class PartOf(unittest.TestCase):
    def parts(self, tree):
        """A dict from (first, last) to the tree of each phrase, its words numbered from 0."""
        words = words_of(tree)
        found = {(words[0], words[-1]): tree}
        if isinstance(tree, tuple):
            found.update(self.parts(tree[0]))
            found.update(self.parts(tree[1]))
        return found

    def test_every_pair_of_words(self):
        for tree in SMALL + LONG[:4]:
            shape = shape_of(tree)
            parts = self.parts(tree)
            words = len(shape) + 1
            for first in range(-1, words + 1):
                for last in range(-1, words + 1):
                    if (first, last) in parts:
                        self.assertEqual(part_of(shape, first, last), shape_of(parts[first, last]))
                    else:
                        self.assertIs(error_kind(part_of, shape, first, last), NoPart)

    def test_one_word_and_all_words(self):
        for tree in ALL:
            shape = shape_of(tree)
            self.assertEqual(part_of(shape, 0, len(shape)), shape)
            self.assertEqual(part_of(shape, len(shape), len(shape)), ())

    def test_the_phrase_of_each_seam(self):
        for tree in LONG:
            shape = shape_of(tree)
            for seam in range(39):
                first, last = joined(shape, seam)
                part = part_of(shape, first, last)
                self.assertEqual(outermost(part), seam - first)
                self.assertEqual(part, tuple(depth - shape[seam] for depth in shape[first:last]))

    def test_no_shape(self):
        for thing in no_shapes():
            self.assertIs(error_kind(part_of, thing, 0, 0), NoShape)
            self.assertIs(error_kind(part_of, thing, None, None), NoShape)

    def test_no_part(self):
        for thing in no_integers() + [-1, 4, 10 ** 40, -10 ** 40]:
            self.assertIs(error_kind(part_of, (1, 0, 1), thing, 1), NoPart)
            self.assertIs(error_kind(part_of, (1, 0, 1), 0, thing), NoPart)
            self.assertIs(error_kind(part_of, (1, 0, 1), thing, thing), NoPart)
        self.assertIs(error_kind(part_of, (1, 0, 1), 1, 0), NoPart)
        self.assertIs(error_kind(part_of, (1, 0, 1), 1, 2), NoPart)
        self.assertIs(error_kind(part_of, (1, 0, 1), False, True), NoPart)


class JoinedShape(unittest.TestCase):
    def test_both_parts_are_found_again(self):
        for one in SMALL[:30]:
            for other in SMALL[:30]:
                both = joined_shape(shape_of(one), shape_of(other))
                seams = len(shape_of(one))
                words = len(both) + 1
                self.assertTrue(is_shape(both))
                self.assertEqual(outermost(both), seams)
                self.assertEqual(part_of(both, 0, seams), shape_of(one))
                self.assertEqual(part_of(both, seams + 1, words - 1), shape_of(other))

    def test_examples(self):
        self.assertEqual(joined_shape((), ()), (0,))
        self.assertEqual(joined_shape((0,), ()), (1, 0))
        self.assertEqual(joined_shape((0,), (1, 0)), (1, 0, 2, 1))

    def test_just_forty_words(self):
        for one in (1, 2, 20, 38, 39):
            both = joined_shape(left_comb(one), right_comb(40 - one))
            self.assertEqual(len(both), 39)
            self.assertTrue(is_shape(both))
        self.assertEqual(joined_shape(left_comb(39), ()), left_comb(40))
        self.assertEqual(joined_shape((), right_comb(39)), right_comb(40))

    def test_more_than_forty_words(self):
        for one, other in ((40, 1), (1, 40), (39, 2), (2, 39), (20, 21), (40, 40)):
            error = raised(joined_shape, left_comb(one), right_comb(other))
            self.assertIs(error.__class__, TooMany)
            self.assertEqual(error.most, 40)

    def test_no_shape(self):
        for thing in no_shapes():
            self.assertIs(error_kind(joined_shape, thing, (0,)), NoShape)
            self.assertIs(error_kind(joined_shape, (0,), thing), NoShape)

    def test_the_kinds_are_told_ahead_of_too_many(self):
        self.assertIs(error_kind(joined_shape, left_comb(40), [0]), NoShape)
        self.assertIs(error_kind(joined_shape, left_comb(41), (0,)), NoShape)
        self.assertIs(error_kind(joined_shape, (0,), left_comb(41)), NoShape)


class Turned(unittest.TestCase):
    def turn(self, tree, last):
        if isinstance(tree, int):
            return last - tree
        return (self.turn(tree[1], last), self.turn(tree[0], last))

    def test_the_words_in_the_other_order(self):
        for tree in ALL:
            shape = shape_of(tree)
            self.assertEqual(turned(shape), shape_of(self.turn(tree, len(shape))))
            self.assertEqual(turned(turned(shape)), shape)

    def test_examples(self):
        self.assertEqual(turned(()), ())
        self.assertEqual(turned((1, 2, 0)), (0, 2, 1))
        self.assertEqual(turned(left_comb(40)), right_comb(40))

    def test_no_shape(self):
        for thing in no_shapes():
            self.assertIs(error_kind(turned, thing), NoShape)


class Against(unittest.TestCase):
    def test_the_parts_of_a_shape_joined_are_the_shape(self):
        for words in range(2, 8):
            shapes = all_shapes(words)
            self.assertEqual(len(shapes), shapes_many(words))
            for shape in shapes:
                top = outermost(shape)
                ahead, behind = part_of(shape, 0, top), part_of(shape, top + 1, words - 1)
                self.assertEqual(joined_shape(ahead, behind), shape)


if __name__ == "__main__":
    unittest.main()
