"""[15]: the fewest regroupings, those that are heard, least roads, regroupings to the right."""

import itertools
import random
import unittest

from heardseams.errors import NoLengths, NoNumber, NoShape, TooMany
from heardseams.heardsteps import heard_steps, least_road, steps, to_the_right
from heardseams.numbers import number, places, road_fault
from heardseams.shapes import all_shapes, regrouped, regroupings, shape_at, shapes_many
from tests.helper import (
    distances, error_kind, left_comb, long_trees, no_integers, no_lengths, no_shapes, raised, right_comb, rotations,
    shape_of, some_lengths, some_m, trees, zigzag,
)

MOST_M = 10 ** 9
THREE = (1, 2, 3)


def ways(lengths):
    """A dict from each shape of the words to the list of (middle, shape behind a regrouping, seams)."""
    far = distances(lengths)
    return {
        shape_of(tree): [
            (far[min(step), max(step)], shape_of(behind), step) for step, behind in rotations(tree).items()
        ]
        for tree in trees(0, len(lengths) - 1)
    }


def costs(graph, start, cost):
    """For each shape that is reached the least sum of the costs of a road; None is no way."""
    best = {start: 0}
    changed = True
    while changed:
        changed = False
        for shape in list(best):
            for middle, behind, _ in graph[shape]:
                added = cost(middle)
                if added is not None and best[shape] + added < best.get(behind, 10 ** 9):
                    best[behind] = best[shape] + added
                    changed = True
    return best


class Steps(unittest.TestCase):
    def test_against_a_search_over_all_shapes(self):
        for words in range(1, 7):
            graph = ways((1,) * words)
            shapes = list(graph)
            for one in shapes if words < 6 else shapes[::5]:
                best = costs(graph, one, lambda middle: 1)
                for other in shapes:
                    self.assertEqual(steps(one, other), best[other])
                    self.assertEqual(steps(other, one), best[other])

    def test_seven_words(self):
        graph = ways((1,) * 7)
        for one in (left_comb(7), zigzag(7), (1, 3, 2, 0, 2, 1)):
            best = costs(graph, one, lambda middle: 1)
            for other in list(graph)[::4]:
                self.assertEqual(steps(one, other), best[other])
        self.assertEqual(steps(left_comb(7), right_comb(7)), 5)

    def test_equal_shapes(self):
        for words in range(1, 8):
            self.assertEqual(steps(zigzag(words), zigzag(words)), 0)

    def test_one_regrouping(self):
        for shape in all_shapes(6)[::5]:
            for step in regroupings(shape):
                self.assertEqual(steps(shape, regrouped(shape, *step)), 1)

    def test_too_many(self):
        for words in (8, 9, 40):
            error = raised(steps, left_comb(words), left_comb(words))
            self.assertIs(error.__class__, TooMany)
            self.assertEqual(error.most, 7)

    def test_no_shape(self):
        for thing in no_shapes():
            for other in ((0, 1), None, thing, left_comb(8)):
                self.assertIs(error_kind(steps, thing, other), NoShape)
                self.assertIs(error_kind(to_the_right, thing, other), NoShape)
        shapes = ((), (0,), (0, 1), (1, 0, 1), left_comb(8), left_comb(40))
        for one in shapes:
            for thing in no_shapes() + [shape for shape in shapes if len(shape) != len(one)]:
                self.assertIs(error_kind(steps, one, thing), NoShape)
                self.assertIs(error_kind(to_the_right, one, thing), NoShape)


class HeardSteps(unittest.TestCase):
    def test_against_a_search_over_all_shapes(self):
        for words in range(1, 6):
            for lengths in some_lengths(words, 1):
                graph = ways(lengths)
                for m in some_m(lengths):
                    for one in list(graph)[::2]:
                        best = costs(graph, one, lambda middle: 1 if middle < m else 0)
                        for other in graph:
                            self.assertEqual(heard_steps(lengths, one, other, m), best[other])

    def test_seven_words(self):
        chance = random.Random(2)
        for lengths in some_lengths(7, 3):
            graph = ways(lengths)
            for m in chance.sample(some_m(lengths), 2):
                one = chance.choice(list(graph))
                best = costs(graph, one, lambda middle: 1 if middle < m else 0)
                for other in list(graph)[::6]:
                    self.assertEqual(heard_steps(lengths, one, other, m), best[other])

    def test_none_are_heard_exactly_if_the_number_is_at_least_m(self):
        for lengths in some_lengths(5, 4):
            for one, other in itertools.product(all_shapes(5), repeat=2):
                least = number(lengths, one, other)
                for m in (1, 2, 10 ** 9) if least is None else (1, least, least + 1):
                    silent = heard_steps(lengths, one, other, m) == 0
                    self.assertIs(silent, least is None or least >= m)

    def test_all_are_heard(self):
        for one, other in itertools.product(all_shapes(5)[::2], all_shapes(5)):
            self.assertEqual(heard_steps((3, 1, 2, 4, 1), one, other, 8), steps(one, other))
            self.assertEqual(heard_steps((3, 1, 2, 4, 1), one, other, MOST_M), steps(one, other))

    def test_too_many(self):
        for words in (8, 40):
            error = raised(heard_steps, (1,) * words, left_comb(words), left_comb(words), 1)
            self.assertIs(error.__class__, TooMany)
            self.assertEqual(error.most, 7)
            self.assertIs(error_kind(heard_steps, (1,) * words, left_comb(words), left_comb(words), 0), NoNumber)


class LeastRoad(unittest.TestCase):
    def walk(self, lengths, one, other, most, found):
        """Checks that the list is a road, step by step."""
        spots, shape = places(lengths), one
        for step in found:
            self.assertIn(step, regroupings(shape))
            self.assertGreaterEqual(abs(spots[step[0]] - spots[step[1]]), most)
            shape = regrouped(shape, *step)
        self.assertEqual(shape, other)
        self.assertIsNone(road_fault(lengths, one, other, most, found))

    def check_all(self, lengths, ones, others, mosts):
        graph = ways(lengths)
        for most in mosts:
            for one in list(graph)[::ones]:
                best = costs(graph, one, lambda middle: 1 if middle >= most else None)
                for other in list(graph)[::others]:
                    found = least_road(lengths, one, other, most)
                    least = number(lengths, one, other)
                    self.assertIs(found is None, least is not None and least < most)
                    if found is None:
                        self.assertNotIn(other, best)
                    else:
                        self.assertIs(found.__class__, list)
                        self.assertEqual(len(found), best[other])
                        self.walk(lengths, one, other, most, found)

    def test_all_shapes_of_a_few_words(self):
        for words in range(1, 6):
            for lengths in some_lengths(words, 5):
                self.check_all(lengths, 3, 1, [0] + some_m(lengths))

    def test_seven_words(self):
        for lengths in ((1,) * 7, (1, 3, 1, 2, 5, 1, 2), (10 ** 6,) * 7):
            self.check_all(lengths, 60, 9, (0, 1, 2, 3, 10 ** 6))

    def test_as_few_as_all_regroupings_need(self):
        for one, other in itertools.product(all_shapes(5)[::3], all_shapes(5)):
            self.assertEqual(len(least_road((1,) * 5, one, other, 0)), steps(one, other))

    def test_ends(self):
        self.assertEqual(least_road((1,), (), (), 10 ** 40), [])
        self.assertEqual(least_road(THREE, (0, 1), (0, 1), 10 ** 40), [])
        self.assertEqual(least_road(THREE, (0, 1), (1, 0), 2), [(0, 1)])
        self.assertIsNone(least_road(THREE, (0, 1), (1, 0), 3))
        self.assertIsNone(least_road(THREE, (0, 1), (1, 0), 10 ** 40))

    def test_a_list_is_new(self):
        found = least_road(THREE, (0, 1), (1, 0), 2)
        found.append(1)
        self.assertEqual(least_road(THREE, (0, 1), (1, 0), 2), [(0, 1)])
        least_road(THREE, (0, 1), (0, 1), 2).append(1)
        self.assertEqual(least_road(THREE, (0, 1), (0, 1), 2), [])

    def test_too_many(self):
        for words in (8, 40):
            error = raised(least_road, (1,) * words, left_comb(words), left_comb(words), 0)
            self.assertIs(error.__class__, TooMany)
            self.assertEqual(error.most, 7)
            self.assertIs(error_kind(least_road, (1,) * words, left_comb(words), left_comb(words), -1), NoNumber)


class ToTheRight(unittest.TestCase):
    def reached(self, one):
        """All trees that regroupings to the right alone lead to."""
        found, waiting = {}, [one]
        while waiting:
            tree = waiting.pop()
            if shape_of(tree) not in found:
                found[shape_of(tree)] = True
                waiting += [behind for step, behind in rotations(tree).items() if step[0] > step[1]]
        return found

    def test_against_all_such_regroupings(self):
        for words in range(1, 7):
            for one in trees(0, words - 1):
                found = self.reached(one)
                for other in all_shapes(words):
                    self.assertIs(to_the_right(shape_of(one), other), other in found)

    def test_one_regrouping(self):
        self.assertIs(to_the_right((1, 0), (0, 1)), True)
        self.assertIs(to_the_right((0, 1), (1, 0)), False)

    def test_equal_shapes(self):
        for words in (1, 2, 3, 8, 40):
            self.assertIs(to_the_right(zigzag(words), zigzag(words)), True)

    def test_forty_words(self):
        chance = random.Random(6)
        self.assertIs(to_the_right(left_comb(40), right_comb(40)), True)
        self.assertIs(to_the_right(right_comb(40), left_comb(40)), False)
        for tree in long_trees(8, 7):
            one = shape_of(tree)
            self.assertIs(to_the_right(left_comb(40), one), True)
            self.assertIs(to_the_right(one, right_comb(40)), True)
            other = one
            for _ in range(30):
                ahead = [step for step in regroupings(other) if step[0] > step[1]]
                other = regrouped(other, *chance.choice(ahead))
                self.assertIs(to_the_right(one, other), True)
                self.assertIs(to_the_right(other, one), False)
            # One regrouping to the left of a seam whose phrase ends as in the first shape.
            for step in regroupings(one):
                if step[0] < step[1]:
                    self.assertIs(to_the_right(one, regrouped(one, *step)), False)

    def test_neither_way(self):
        self.assertIs(to_the_right((2, 1, 0), (1, 2, 0)), True)
        self.assertIs(to_the_right((1, 2, 0), (1, 0, 1)), False)
        self.assertIs(to_the_right((1, 0, 1), (1, 2, 0)), False)


class Refused(unittest.TestCase):
    def test_lengths_shapes_and_numbers(self):
        for function in (heard_steps, least_road):
            for thing in no_lengths():
                self.assertIs(error_kind(function, thing, (0, 1), (1, 0), 1), NoLengths)
                self.assertIs(error_kind(function, thing, None, None, None), NoLengths)
            for thing in no_shapes() + [(), (0,), (1, 0, 1), left_comb(8)]:
                self.assertIs(error_kind(function, THREE, thing, (0, 1), 1), NoShape)
                self.assertIs(error_kind(function, THREE, thing, None, None), NoShape)
                self.assertIs(error_kind(function, THREE, (0, 1), thing, 1), NoShape)
                self.assertIs(error_kind(function, THREE, (0, 1), thing, None), NoShape)
            for thing in no_integers() + [-1, -10 ** 40]:
                self.assertIs(error_kind(function, THREE, (0, 1), (1, 0), thing), NoNumber)
        for thing in (0, MOST_M + 1, 10 ** 40):
            self.assertIs(error_kind(heard_steps, THREE, (0, 1), (1, 0), thing), NoNumber)
            self.assertIsNone(raised(least_road, THREE, (0, 1), (1, 0), thing))

    def test_many_words_in_shapes_chosen_at_random(self):
        chance = random.Random(8)
        one, other = [shape_at(8, chance.randrange(shapes_many(8))) for _ in range(2)]
        self.assertIs(error_kind(steps, one, other), TooMany)
        self.assertIs(error_kind(steps, one, (0, 1)), NoShape)
        self.assertIs(error_kind(heard_steps, (1,) * 8, one, other, MOST_M), TooMany)
        self.assertIs(error_kind(least_road, (1,) * 8, one, other, 10 ** 40), TooMany)


if __name__ == "__main__":
    unittest.main()
