"""[24]: lengths that are chosen at prices."""

import itertools
import random
import unittest

from heardseams.choices import cheapest_alike, cheapest_apart
from heardseams.errors import NoChoices, NoNumber, NoShape, TooMany
from heardseams.numbers import alike_in_all
from tests.helper import (
    error_kind, left_comb, no_integers, no_shapes, odd_things, raised, random_tree, right_comb, shape_of, standing,
)

FREE = ((1, 0),)


def number_by_hand(lengths, one, other):
    """The least distance of seams that stand unlike in the two trees."""
    seams = range(len(lengths) - 1)
    return min((
        sum(lengths[p + 1:q + 1]) for q in seams for p in range(q) if standing(one, p, q) != standing(other, p, q)
    ), default=None)


def cheapest_by_hand(choices, one, other, reach, apart):
    best = None
    numbers = {}
    for way in itertools.product(*choices):
        lengths = tuple(length for length, _ in way)
        if lengths not in numbers:
            numbers[lengths] = number_by_hand(lengths, one, other)
        parted = numbers[lengths] is not None and numbers[lengths] < reach
        found = (sum(price for _, price in way), lengths)
        if parted == apart and (best is None or found < best):
            best = found
    return best


def some_choices(chance, words, most):
    """Choices with prices that often are equal, pairs that stand twice among them."""
    choices = []
    for _ in range(words):
        choice = [
            (chance.choice((1, 1, 2, 3, 5, 1000)), chance.choice((0, 0, 1, 1, 2, 5, 10 ** 9)))
            for _ in range(chance.randint(1, most))
        ]
        if len(choice) < most and chance.random() < 0.3:
            choice.append(chance.choice(choice))
        choices.append(tuple(choice))
    return tuple(choices)


class Cheapest(unittest.TestCase):
    def test_by_hand(self):
        choices = (FREE, ((3, 0), (1, 7), (2, 5)), FREE)
        for function, reach, expected in (
            (cheapest_apart, 2, (7, (1, 1, 1))), (cheapest_apart, 3, (5, (1, 2, 1))), (cheapest_apart, 4, (0, (1, 3, 1))),
            (cheapest_alike, 2, (0, (1, 3, 1))), (cheapest_alike, 3, (0, (1, 3, 1))), (cheapest_alike, 4, None),
        ):
            self.assertEqual(function(choices, (0, 1), (1, 0), reach), expected)
        self.assertEqual(cheapest_alike((FREE, ((3, 9), (1, 7), (2, 5)), FREE), (0, 1), (1, 0), 2), (5, (1, 2, 1)))
        self.assertIsNone(cheapest_apart((FREE, ((3, 0), (2, 0)), FREE), (0, 1), (1, 0), 2))

    def test_all_ways_gone_through(self):
        chance = random.Random(1)
        kinds = set()
        for _ in range(250):
            words = chance.randint(1, 6)
            choices = some_choices(chance, words, 3)
            one, other = random_tree(chance, 0, words - 1), random_tree(chance, 0, words - 1)
            for reach in (2, 3, 4, 5, 8, 9, 1001, 10 ** 9):
                for function, apart in ((cheapest_apart, True), (cheapest_alike, False)):
                    found = function(choices, shape_of(one), shape_of(other), reach)
                    self.assertEqual(found, cheapest_by_hand(choices, one, other, reach, apart))
                    kinds.add((apart, found is None))
        self.assertEqual(len(kinds), 4)

    def test_ten_words(self):
        chance = random.Random(2)
        for _ in range(8):
            choices = some_choices(chance, 10, 2)
            one, other = random_tree(chance, 0, 9), random_tree(chance, 0, 9)
            for function, apart in ((cheapest_apart, True), (cheapest_alike, False)):
                found = function(choices, shape_of(one), shape_of(other), 4)
                self.assertEqual(found, cheapest_by_hand(choices, one, other, 4, apart))

    def test_what_is_found_is_as_told(self):
        chance = random.Random(3)
        for _ in range(40):
            choices = some_choices(chance, 7, 3)
            one, other = shape_of(random_tree(chance, 0, 6)), shape_of(random_tree(chance, 0, 6))
            for function, alike in ((cheapest_apart, False), (cheapest_alike, True)):
                found = function(choices, one, other, 5)
                if found is not None:
                    self.assertIs(alike_in_all(found[1], one, other, 5), alike)

    def test_equal_shapes(self):
        choices = (((2, 5), (7, 4), (3, 4)), ((1, 0),), ((1, 1), (9, 1)))
        for shape in ((0, 1), (1, 0)):
            for reach in (2, 3, 10 ** 9):
                self.assertIsNone(cheapest_apart(choices, shape, shape, reach))
                self.assertEqual(cheapest_alike(choices, shape, shape, reach), (5, (3, 1, 1)))

    def test_one_word_and_two(self):
        self.assertIsNone(cheapest_apart((((5, 3), (4, 3)),), (), (), 2))
        self.assertEqual(cheapest_alike((((5, 3), (4, 3)),), (), (), 2), (3, (4,)))
        self.assertIsNone(cheapest_apart((FREE, FREE), (0,), (0,), 9))
        self.assertEqual(cheapest_alike((FREE, FREE), (0,), (0,), 9), (0, (1, 1)))

    def test_equal_prices(self):
        choices = (((3, 1), (2, 1)), ((2, 0), (1, 0), (2, 0)), ((1, 4), (9, 4)))
        self.assertEqual(cheapest_apart(choices, (0, 1), (1, 0), 3), (5, (2, 1, 1)))
        self.assertEqual(cheapest_alike(choices, (0, 1), (1, 0), 2), (5, (2, 2, 1)))
        twice = (((1, 1), (1, 1)), ((1, 2), (1, 2)), ((1, 3), (1, 3)))
        self.assertEqual(cheapest_apart(twice, (0, 1), (1, 0), 2), (6, (1, 1, 1)))

    def test_a_length_at_two_prices(self):
        choices = (FREE, ((2, 9), (2, 4), (2, 7)), FREE)
        self.assertEqual(cheapest_apart(choices, (0, 1), (1, 0), 3), (4, (1, 2, 1)))

    def test_the_greatest_lengths_prices_and_reaches(self):
        choices = (((1000, 10 ** 9),),) * 10
        one, other = left_comb(10), right_comb(10)
        self.assertEqual(cheapest_apart(choices, one, other, 1001), (10 ** 10, (1000,) * 10))
        self.assertIsNone(cheapest_apart(choices, one, other, 1000))
        self.assertEqual(cheapest_alike(choices, one, other, 1000), (10 ** 10, (1000,) * 10))
        self.assertIsNone(cheapest_alike(choices, one, other, 10 ** 9))


class Ways(unittest.TestCase):
    def pairs(self, many):
        return tuple((length, 5 - length) for length in range(1, many + 1))

    def test_just_twenty_thousand(self):
        for choices in (
            tuple(self.pairs(many) for many in (5, 5, 5, 5, 4, 4, 2)),
            tuple(self.pairs(many) for many in (5, 1, 5, 5, 1, 5, 4, 4, 2, 1)),
            tuple(((1, 1),) * many for many in (5, 4, 5, 4, 5, 2, 5)),
        ):
            one, other = left_comb(len(choices)), right_comb(len(choices))
            for reach in (2, 3):
                self.assertIsNone(raised(cheapest_apart, choices, one, other, reach))
                self.assertIsNone(raised(cheapest_alike, choices, one, other, reach))

    def test_all_of_twenty_thousand(self):
        chance = random.Random(4)
        choices = tuple(
            tuple((chance.randint(1, 4), chance.randint(0, 9)) for _ in range(many)) for many in (5, 4, 5, 4, 5, 2, 5)
        )
        one, other = random_tree(chance, 0, 6), random_tree(chance, 0, 6)
        for function, apart in ((cheapest_apart, True), (cheapest_alike, False)):
            found = function(choices, shape_of(one), shape_of(other), 4)
            self.assertEqual(found, cheapest_by_hand(choices, one, other, 4, apart))

    def test_more_than_twenty_thousand(self):
        for sizes in ((5, 5, 5, 3, 3, 3, 3, 2), (5, 4, 4, 4, 4, 4, 4), (5,) * 10):
            one, other = left_comb(len(sizes)), right_comb(len(sizes))
            for choices in (tuple(self.pairs(many) for many in sizes), tuple(((1, 1),) * many for many in sizes)):
                for function in (cheapest_apart, cheapest_alike):
                    for shape in (one, other):
                        error = raised(function, choices, one, shape, 2)
                        self.assertIs(error.__class__, TooMany)
                        self.assertEqual(error.most, 20000)


class Refused(unittest.TestCase):
    def no_choices(self):
        pair = (1, 0)
        wrong_pairs = [
            [1, 0], (1,), (1, 0, 0), (0, 0), (-1, 0), (1001, 0), (1, -1), (1, 10 ** 9 + 1), (True, 0), (1, False),
            (1, True), ("1", 0), (1, "0"), (None, 0), (1, None), (10 ** 40, 0), (1, 10 ** 40), ((1,), (0,)), 1, "10", None,
        ]
        wrong = [((thing,),) for thing in wrong_pairs] + [((pair,), (pair, thing)) for thing in wrong_pairs]
        return odd_things() + wrong + [
            ((pair,),) * 11, ((pair,) * 6,), ((pair,), ()), ((pair,), [pair]), [(pair,)], (pair, pair), ((pair,), None),
            ((pair,), pair), ((pair,),) * 40, {0: (pair,)}, ({pair: 0},), ((pair,),) * 10 + (None,),
        ]

    def test_no_choices(self):
        for thing in self.no_choices():
            for function in (cheapest_apart, cheapest_alike):
                for shape, reach in (((), 2), (None, None), ((0,), 2)):
                    self.assertIs(error_kind(function, thing, shape, shape, reach), NoChoices, thing)

    def test_no_shape(self):
        choices = (FREE,) * 3
        for function in (cheapest_apart, cheapest_alike):
            for thing in no_shapes() + [(), (0,), (1, 0, 1), (0, 1, 2)]:
                for other, reach in (((0, 1), 2), (None, None)):
                    self.assertIs(error_kind(function, choices, thing, other, reach), NoShape, thing)
                for reach in (2, None):
                    self.assertIs(error_kind(function, choices, (0, 1), thing, reach), NoShape, thing)

    def test_no_number(self):
        for function in (cheapest_apart, cheapest_alike):
            for choices in ((FREE,) * 3, (FREE * 5,) * 10):
                shape = left_comb(len(choices))
                for thing in no_integers() + [1, 0, -1, 10 ** 9 + 1, 10 ** 40, -10 ** 40]:
                    self.assertIs(error_kind(function, choices, shape, shape, thing), NoNumber, thing)

    def test_too_many_comes_last(self):
        choices = (FREE * 5,) * 10
        self.assertIs(error_kind(cheapest_apart, choices, (0,), left_comb(10), 2), NoShape)
        self.assertIs(error_kind(cheapest_apart, choices, left_comb(10), (0,), 2), NoShape)
        self.assertIs(error_kind(cheapest_apart, choices[:-1] + (None,), left_comb(10), left_comb(10), 2), NoChoices)
        self.assertIs(error_kind(cheapest_apart, choices, left_comb(10), left_comb(10), 2), TooMany)


if __name__ == "__main__":
    unittest.main()
