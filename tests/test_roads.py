"""[8]: roads, their faults, and the main fact of the number."""

import random
import unittest

from heardseams.errors import NoLengths, NoNumber, NoShape
from heardseams.numbers import number, places, road, road_fault
from heardseams.shapes import all_shapes, regrouped, regroupings, shape_at, shapes_many
from tests.helper import (
    error_kind, left_comb, long_trees, no_integers, no_lengths, no_shapes, odd_things, right_comb, shape_of,
    some_lengths, zigzag,
)

FOUR = (1, 1, 1, 1)


def walk(lengths, shape, steps):
    """The last shape of a road and its least middle, by the functions of shapes alone."""
    spots = places(lengths)
    least = None
    for one, other in steps:
        shape = regrouped(shape, one, other)
        middle = abs(spots[one] - spots[other])
        least = middle if least is None else min(least, middle)
    return shape, least


def best_middles(lengths, shapes):
    """For each two shapes the greatest least middle of a road, by widening groups of shapes."""
    spots = places(lengths)
    edges = []
    for shape in shapes:
        for one, other in regroupings(shape):
            edges.append((abs(spots[one] - spots[other]), shape, regrouped(shape, one, other)))
    group = {shape: [shape] for shape in shapes}
    best = {}
    for middle, one, other in sorted(edges, reverse=True):
        if group[one] is not group[other]:
            for a in group[one]:
                for b in group[other]:
                    best[a, b] = best[b, a] = middle
            both = group[one] + group[other]
            for shape in both:
                group[shape] = both
    return best


class Main(unittest.TestCase):
    def test_the_number_is_the_best_least_middle_of_all_roads(self):
        for words in range(2, 7):
            shapes = all_shapes(words)
            for lengths in some_lengths(words, 6):
                best = best_middles(lengths, shapes)
                for one in shapes:
                    for other in shapes:
                        if one != other:
                            self.assertEqual(number(lengths, one, other), best[one, other])


class Road(unittest.TestCase):
    def check(self, lengths, one, other):
        steps = road(lengths, one, other)
        self.assertIsInstance(steps, list)
        least = number(lengths, one, other)
        end, middle = walk(lengths, one, steps)
        self.assertEqual(end, other)
        self.assertEqual(middle, least)
        for most in sorted({0, 1, least // 2, least - 1, least}):
            self.assertIsNone(road_fault(lengths, one, other, most, steps))
        fault = road_fault(lengths, one, other, least + 1, steps)
        self.assertEqual(fault[0], "middle")
        self.assertTrue(0 <= fault[1] < len(steps))

    def test_every_two_small_shapes(self):
        for words in range(3, 7):
            shapes = all_shapes(words)
            for lengths in some_lengths(words, 7):
                for one in shapes:
                    for other in shapes:
                        if one != other:
                            self.check(lengths, one, other)

    def test_every_most_up_to_the_number(self):
        lengths = (2, 3, 1, 4, 2)
        for one in all_shapes(5):
            for other in all_shapes(5):
                if one != other:
                    steps = road(lengths, one, other)
                    for most in range(number(lengths, one, other) + 1):
                        self.assertIsNone(road_fault(lengths, one, other, most, steps))

    def test_forty_words_far_apart(self):
        chance = random.Random(12)
        for lengths in some_lengths(40, 8):
            self.check(lengths, left_comb(40), right_comb(40))
            self.check(lengths, right_comb(40), zigzag(40))
            for _ in range(5):
                one, other = [shape_at(40, chance.randrange(shapes_many(40))) for _ in range(2)]
                self.check(lengths, one, other)

    def test_forty_words_with_a_great_number(self):
        chance = random.Random(13)
        for lengths in some_lengths(40, 9):
            spots = places(lengths)
            for tree in long_trees(5, 14):
                one = other = shape_of(tree)
                for _ in range(60):
                    far = [(p, q) for p, q in regroupings(other) if abs(spots[p] - spots[q]) >= 4]
                    other = regrouped(other, *chance.choice(far))
                if one != other:
                    self.assertGreaterEqual(number(lengths, one, other), 4)
                    self.check(lengths, one, other)

    def test_equal_shapes(self):
        self.assertEqual(road((3,), (), ()), [])
        self.assertEqual(road((3, 3), (0,), (0,)), [])
        self.assertEqual(road((1,) * 40, zigzag(40), zigzag(40)), [])

    def test_equal_calls_give_equal_roads(self):
        self.assertEqual(road((1,) * 40, zigzag(40), left_comb(40)), road((1,) * 40, zigzag(40), left_comb(40)))

    def test_refused(self):
        for thing in no_lengths():
            self.assertIs(error_kind(road, thing, (0,), (0,)), NoLengths)
            self.assertIs(error_kind(road, thing, None, None), NoLengths)
        for thing in no_shapes() + [(), (0,), (1, 0, 1)]:
            self.assertIs(error_kind(road, (1, 2, 3), thing, (0, 1)), NoShape)
            self.assertIs(error_kind(road, (1, 2, 3), (0, 1), thing), NoShape)
        self.assertIs(error_kind(road, (1, 2, 3), (), ()), NoShape)


class RoadFault(unittest.TestCase):
    def fault(self, most, thing):
        """The fault of a road from (1, 2, 0) to (0, 2, 1) with words of one sound."""
        return road_fault(FOUR, (1, 2, 0), (0, 2, 1), most, thing)

    def test_none(self):
        for most in (0, 1, 2):
            self.assertIsNone(self.fault(most, [(2, 0)]))
        self.assertIsNone(self.fault(1, [(2, 0), (2, 1), (1, 2)]))

    def test_form_for_other_things_than_lists(self):
        for thing in odd_things() + [((2, 0),), "(2, 0)", {2: 0}]:
            if not isinstance(thing, list):
                self.assertEqual(self.fault(0, thing), ("form",))

    def test_form_for_lists_of_other_things(self):
        for thing in odd_things():
            self.assertEqual(self.fault(0, [thing]), ("form",))
            self.assertEqual(self.fault(0, [(2, 0), thing]), ("form",))
            self.assertEqual(self.fault(0, [(thing,)]), ("form",))
            self.assertEqual(self.fault(0, [(2, 0, thing)]), ("form",))
            if thing not in (-1, 10 ** 40, -10 ** 40) or isinstance(thing, bool):
                self.assertEqual(self.fault(0, [(thing, 0)]), ("form",))
                self.assertEqual(self.fault(0, [(2, thing)]), ("form",))
        for pair in ([2, 0], (2, False), (True, 0), (2,), (2, 0, 0), "20", ("2", "0"), {2: 0}):
            self.assertEqual(self.fault(0, [pair]), ("form",))

    def test_form_comes_first(self):
        self.assertEqual(self.fault(10 ** 9, [(0, 2), (2, 0), None]), ("form",))
        self.assertEqual(self.fault(10 ** 9, [(2, 0), (2, True)]), ("form",))

    def test_step(self):
        for pair in ((0, 2), (2, 1), (1, 0), (0, 0), (3, 0), (2, 3), (-1, 0), (2, -3), (10 ** 40, 0)):
            self.assertEqual(self.fault(0, [pair]), ("step", 0), pair)
            self.assertEqual(self.fault(0, [(2, 0), (0, 2), pair if pair != (0, 2) else (2, 1), (5, 5)])[0], "step")
        self.assertEqual(self.fault(2, [(2, 0), (2, 0)]), ("step", 1))
        self.assertEqual(self.fault(0, [(2, 0), (0, 2), (9, 9), (8, 8)]), ("step", 2))

    def test_middle(self):
        self.assertEqual(self.fault(3, [(2, 0)]), ("middle", 0))
        self.assertEqual(self.fault(10 ** 40, [(2, 0)]), ("middle", 0))
        self.assertEqual(self.fault(2, [(2, 0), (2, 1)]), ("middle", 1))

    def test_step_and_middle_are_looked_for_together(self):
        self.assertEqual(self.fault(2, [(0, 1), (9, 9)]), ("middle", 0))
        self.assertEqual(self.fault(2, [(9, 9), (0, 1)]), ("step", 0))
        self.assertEqual(self.fault(3, [(0, 2)]), ("step", 0))
        self.assertEqual(self.fault(2, [(2, 0), (2, 1), (2, 0)]), ("middle", 1))
        self.assertEqual(self.fault(1, [(2, 0), (2, 1), (2, 0)]), ("step", 2))

    def test_a_step_and_its_middle_come_before_the_end(self):
        self.assertEqual(self.fault(3, [(0, 1)]), ("middle", 0))
        self.assertEqual(self.fault(0, [(0, 1), (0, 1)]), ("step", 1))

    def test_end(self):
        self.assertEqual(self.fault(0, []), ("end",))
        self.assertEqual(self.fault(10 ** 40, []), ("end",))
        self.assertEqual(self.fault(1, [(0, 1)]), ("end",))
        self.assertEqual(self.fault(2, [(2, 0), (0, 2)]), ("end",))

    def test_equal_shapes_have_roads_for_every_most(self):
        for most in (0, 1, 10 ** 40):
            self.assertIsNone(road_fault((1,), (), (), most, []))
            self.assertIsNone(road_fault(FOUR, (1, 2, 0), (1, 2, 0), most, []))
        self.assertIsNone(road_fault(FOUR, (1, 2, 0), (1, 2, 0), 2, [(2, 0), (0, 2)]))
        self.assertEqual(road_fault(FOUR, (1, 2, 0), (1, 2, 0), 3, [(2, 0), (0, 2)]), ("middle", 0))
        self.assertEqual(road_fault((1,), (), (), 0, [(0, 0)]), ("step", 0))

    def test_forty_words(self):
        steps = [(seam, seam + 1) for seam in range(38)]
        lengths = tuple(range(1, 41))
        self.assertIsNone(road_fault(lengths, right_comb(40), left_comb(40), 2, steps))
        self.assertEqual(road_fault(lengths, right_comb(40), left_comb(40), 3, steps), ("middle", 0))
        self.assertEqual(road_fault(lengths, right_comb(40), left_comb(40), 2, steps[:-1]), ("end",))
        self.assertEqual(road_fault(lengths, right_comb(40), left_comb(40), 2, steps + [(0, 1)]), ("step", 38))

    def test_no_number_for_most(self):
        for thing in no_integers() + [-1, -10 ** 40]:
            self.assertIs(error_kind(self.fault, thing, [(2, 0)]), NoNumber)
            self.assertIs(error_kind(self.fault, thing, None), NoNumber)

    def test_lengths_and_shapes_come_first(self):
        for thing in no_lengths():
            self.assertIs(error_kind(road_fault, thing, None, None, None, None), NoLengths)
            self.assertIs(error_kind(road_fault, thing, (0,), (0,), 0, []), NoLengths)
        for thing in no_shapes() + [(), (0,), (1, 0, 1)]:
            self.assertIs(error_kind(road_fault, (1, 2, 3), thing, (0, 1), None, None), NoShape)
            self.assertIs(error_kind(road_fault, (1, 2, 3), (0, 1), thing, None, None), NoShape)
            self.assertIs(error_kind(road_fault, (1, 2, 3), thing, (0, 1), 0, []), NoShape)
            self.assertIs(error_kind(road_fault, (1, 2, 3), (0, 1), thing, 0, []), NoShape)


if __name__ == "__main__":
    unittest.main()
