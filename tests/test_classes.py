"""[13]: classes, their forms, their numbers and sizes, neighbours, leanings."""

import itertools
import random
import unittest

from heardseams.errors import NoLeaning, NoLengths, NoNumber, NoShape, TooMany
from heardseams.forms import (
    class_of, class_size, class_sizes, classes_many, first_joined, form, form_at, form_number, greatest_class,
    is_form, leaning_size, left_form, neighbours, same_class, unlike_near,
)
from heardseams.numbers import places, unlike
from heardseams.shapes import all_shapes, regrouped, regroupings, shape_at, shape_number, shapes_many, turned
from tests.helper import (
    classes_by_hand, distances, error_kind, far_steps, left_comb, long_trees, near_by_hand, no_integers, no_lengths,
    no_shapes, odd_things, raised, right_comb, rotations, shape_of, some_lengths, some_m, standing, trees, zigzag,
)

MOST_M = 10 ** 9
# A class of 2000 shapes, one of 2001, and rows of words with 2000 and 2002 classes.
JUST_2000 = (
    (1, 9, 2, 9, 2, 1, 5, 3, 1, 9, 5, 1, 3), (2, 1, 3, 4, 2, 4, 6, 5, 6, 7, 3, 0), 8,
)
JUST_2001 = (
    (1, 2, 2, 5, 9, 9, 9, 5, 1, 3, 5, 5, 1, 5), (0, 1, 5, 6, 4, 3, 5, 6, 7, 8, 9, 4, 2), 8,
)
MANY_2000 = ((5, 2, 20, 2, 1, 9, 1, 3, 5, 2, 5, 1, 20, 1, 5), 7)
MANY_2002 = ((2, 1, 3, 5, 3, 2, 2, 3, 1, 1), 11)
# Forty words with few seams that are near each other.
SPARSE = tuple([10, 1, 10] * 10 + [10] * 10)


def cases(most):
    """Lengths and m for rows of 1 to so many words."""
    for words in range(1, most + 1):
        for lengths in some_lengths(words, words):
            for m in some_m(lengths):
                yield lengths, m


def far_to_the_right(lengths, tree, m):
    """The regroupings with middles of m or more whose first seam is behind the second."""
    return [step for step in far_steps(lengths, tree, m) if step[0] > step[1]]


def forms_by_hand(lengths, m):
    """The shapes in which no seam is directly over one ahead of it that is m or more away, in order."""
    return [shape_of(tree) for tree in trees(0, len(lengths) - 1) if not far_to_the_right(lengths, tree, m)]


def is_form_by_hand(lengths, shape, m):
    spots = places(lengths)
    return all(spots[one] - spots[other] < m for one, other in regroupings(shape))


def long_cases(seed):
    """Rows of 40 words, shapes of theirs, and numbers m."""
    chance = random.Random(seed)
    for lengths in some_lengths(40, seed):
        far = sorted(distances(lengths).values())
        for tree in long_trees(3, seed):
            for m in (1, far[10], chance.choice(far), chance.choice(far) + 1, far[-1], far[-1] + 1, MOST_M):
                yield lengths, tree, m


class Small(unittest.TestCase):
    def test_forms_and_classes(self):
        for lengths, m in cases(6):
            classes = classes_by_hand(lengths, m)
            forms = forms_by_hand(lengths, m)
            self.assertEqual(classes_many(lengths, m), len(classes))
            self.assertEqual(len(forms), len(classes))
            for members in classes:
                mine = [shape for shape in forms if shape in members]
                self.assertEqual(len(mine), 1)
                for shape in members:
                    self.assertEqual(form(lengths, shape, m), mine[0])
                    self.assertIs(is_form(lengths, shape, m), shape == mine[0])
                    self.assertEqual(form_number(lengths, shape, m), forms.index(mine[0]))

    def test_form_at_goes_through_the_forms_in_order(self):
        for lengths, m in cases(6):
            forms = forms_by_hand(lengths, m)
            self.assertEqual([form_at(lengths, m, number) for number in range(len(forms))], forms)

    def test_sizes_and_members(self):
        for lengths, m in cases(6):
            for members in classes_by_hand(lengths, m):
                for shape in members[::5] + members[-1:]:
                    self.assertEqual(class_size(lengths, shape, m), len(members))
                    self.assertEqual(class_of(lengths, shape, m), members)

    def test_sizes_of_all_classes(self):
        for lengths, m in cases(6):
            classes = classes_by_hand(lengths, m)
            sizes = [len(members) for shape in forms_by_hand(lengths, m) for members in classes if shape in members]
            self.assertEqual(class_sizes(lengths, m), sizes)
            first = forms_by_hand(lengths, m)[sizes.index(max(sizes))]
            self.assertEqual(greatest_class(lengths, m), (max(sizes), first))

    def test_same_class_and_unlike_near(self):
        for lengths, m in cases(5):
            found = [(shape_of(tree), near_by_hand(lengths, tree, m)) for tree in trees(0, len(lengths) - 1)]
            for (one, near), (other, far) in itertools.product(found, repeat=2):
                unlike_pairs = sorted(pair for pair in near if near[pair] != far[pair])
                self.assertIs(same_class(lengths, one, other, m), unlike_pairs == [])
                self.assertEqual(unlike_near(lengths, one, other, m), unlike_pairs)

    def test_left_form(self):
        for lengths, m in cases(6):
            lefts = [
                shape_of(tree) for tree in trees(0, len(lengths) - 1)
                if all(one > other for one, other in far_steps(lengths, tree, m))
            ]
            for members in classes_by_hand(lengths, m):
                mine = [shape for shape in lefts if shape in members]
                self.assertEqual(len(mine), 1)
                for shape in members:
                    self.assertEqual(left_form(lengths, shape, m), mine[0])

    def test_left_form_is_the_form_of_the_row_told_backward(self):
        for lengths, m in cases(6):
            for shape in all_shapes(len(lengths))[::3]:
                back = turned(form(lengths[::-1], turned(shape), m))
                self.assertEqual(left_form(lengths, shape, m), back)

    def test_neighbours(self):
        for lengths, m in cases(6):
            order = [shape_of(tree) for tree in trees(0, len(lengths) - 1)]
            form_by_shape, reached = {}, {}
            for members in classes_by_hand(lengths, m):
                mine = [shape for shape in members if is_form_by_hand(lengths, shape, m)][0]
                form_by_shape.update((shape, mine) for shape in members)
            for tree in trees(0, len(lengths) - 1):
                mine = form_by_shape[shape_of(tree)]
                near = reached.setdefault(mine, set())
                near.update(form_by_shape[shape_of(behind)] for behind in rotations(tree).values())
            for shape in order[::4]:
                mine = form_by_shape[shape]
                expected = sorted(reached[mine] - {mine}, key=order.index)
                self.assertEqual(neighbours(lengths, shape, m), expected)

    def test_the_form_is_reached_by_far_regroupings(self):
        for lengths, m in cases(5):
            for tree in trees(0, len(lengths) - 1):
                mine = form(lengths, shape_of(tree), m)
                while far_to_the_right(lengths, tree, m):
                    tree = rotations(tree)[far_to_the_right(lengths, tree, m)[0]]
                self.assertEqual(shape_of(tree), mine)

    def test_first_joined(self):
        for words in range(1, 7):
            for tree in trees(0, words - 1):
                sides = tuple(
                    "left" if standing(tree, word - 1, word) == "under" else "right" for word in range(1, words - 1)
                )
                for lengths in some_lengths(words, 1)[:2]:
                    self.assertEqual(first_joined(lengths, shape_of(tree)), sides)


class Leanings(unittest.TestCase):
    def test_counted_over_all_shapes(self):
        for words in range(2, 9):
            found = [first_joined((1,) * words, shape) for shape in all_shapes(words)]
            for leaning in itertools.product(("left", "right"), repeat=words - 2):
                self.assertEqual(leaning_size(leaning), found.count(leaning))
                self.assertGreater(leaning_size(leaning), 0)

    def test_fact_one_class_for_two_exactly_if_they_are_equal(self):
        for words in range(1, 7):
            for one, other in itertools.product(all_shapes(words), repeat=2):
                equal = first_joined((1,) * words, one) == first_joined((1,) * words, other)
                self.assertIs(same_class((1,) * words, one, other, 2), equal)

    def test_sizes_of_classes_for_two(self):
        for tree in long_trees(10, 3):
            leaning = first_joined((1,) * 40, shape_of(tree))
            self.assertEqual(len(leaning), 38)
            self.assertEqual(leaning_size(leaning), class_size((1,) * 40, shape_of(tree), 2))

    def test_all_leanings_of_ten_words_make_all_shapes(self):
        sizes = [leaning_size(leaning) for leaning in itertools.product(("left", "right"), repeat=8)]
        self.assertEqual(sum(sizes), shapes_many(10))

    def test_ends(self):
        self.assertEqual(leaning_size(()), 1)
        self.assertEqual(leaning_size(("left",)), 1)
        self.assertEqual(leaning_size(("left",) * 38), 1)
        self.assertEqual(leaning_size(("right",) * 38), 1)
        self.assertEqual(leaning_size(("left", "right")), 1)
        self.assertEqual(leaning_size(("right", "left")), 2)

    def test_no_leaning(self):
        wrong = odd_things() + [
            ["left"], ("left", None), ("up",), ("Left",), ("left", "right "), (0,), (("left",),), ("left",) * 39,
            ("right",) * 1000, "left", {"left": "right"}, ("left", ["right"]), ("left", True), ("l", "r"), ("",),
        ]
        for thing in wrong:
            if thing != ():
                self.assertIs(error_kind(leaning_size, thing), NoLeaning, thing)


class FortyWords(unittest.TestCase):
    def test_the_form_is_of_the_class_and_a_form(self):
        for lengths, tree, m in long_cases(1):
            shape = shape_of(tree)
            mine = form(lengths, shape, m)
            self.assertTrue(is_form_by_hand(lengths, mine, m))
            self.assertIs(is_form(lengths, mine, m), True)
            self.assertIs(is_form(lengths, shape, m), shape == mine)
            self.assertIs(same_class(lengths, shape, mine, m), True)
            self.assertTrue(all(distance >= m for distance, _, _ in unlike(lengths, shape, mine)))
            self.assertEqual(form(lengths, mine, m), mine)
            left = left_form(lengths, shape, m)
            self.assertEqual(left, turned(form(lengths[::-1], turned(shape), m)))
            self.assertEqual(form(lengths, left, m), mine)

    def test_far_regroupings_lead_to_the_form_alone(self):
        chance = random.Random(2)
        for lengths, tree, m in long_cases(4):
            shape, spots = shape_of(tree), places(lengths)
            while True:
                far = [step for step in regroupings(shape) if spots[step[0]] - spots[step[1]] >= m]
                if not far:
                    break
                shape = regrouped(shape, *chance.choice(far))
            self.assertEqual(form(lengths, shape_of(tree), m), shape)

    def test_numbers_there_and_back_and_in_order(self):
        chance = random.Random(3)
        for lengths in some_lengths(40, 5):
            for m in [1, MOST_M] + chance.sample(sorted(distances(lengths).values()), 4):
                many = classes_many(lengths, m)
                numbers = sorted({0, many - 1, many // 2} | {chance.randrange(many) for _ in range(5)})
                forms = [form_at(lengths, m, number) for number in numbers]
                self.assertTrue(all(is_form_by_hand(lengths, shape, m) for shape in forms))
                self.assertEqual([form_number(lengths, shape, m) for shape in forms], numbers)
                self.assertEqual(sorted(forms, key=shape_number), forms)
                self.assertIs(error_kind(form_at, lengths, m, many), NoNumber)

    def test_the_number_of_a_shape_is_that_of_its_form(self):
        for lengths, tree, m in long_cases(6):
            shape = shape_of(tree)
            self.assertEqual(form_at(lengths, m, form_number(lengths, shape, m)), form(lengths, shape, m))

    def test_m_of_one(self):
        for lengths in some_lengths(40, 7):
            self.assertEqual(classes_many(lengths, 1), 1)
            self.assertEqual(class_size(lengths, zigzag(40), 1), shapes_many(40))
            self.assertEqual(form(lengths, zigzag(40), 1), right_comb(40))
            self.assertEqual(left_form(lengths, zigzag(40), 1), left_comb(40))
            self.assertEqual(class_sizes(lengths, 1), [shapes_many(40)])
            self.assertEqual(greatest_class(lengths, 1), (shapes_many(40), right_comb(40)))
            self.assertIs(same_class(lengths, zigzag(40), left_comb(40), 1), True)
            self.assertIs(error_kind(class_of, lengths, zigzag(40), 1), TooMany)

    def test_m_beyond_all_distances(self):
        for lengths in some_lengths(40, 8):
            for m in (sum(lengths), MOST_M):
                self.assertEqual(classes_many(lengths, m), shapes_many(40))
                self.assertEqual(form_at(lengths, m, 10 ** 20), shape_at(40, 10 ** 20))
                for tree in long_trees(3, 9):
                    shape = shape_of(tree)
                    self.assertEqual(form(lengths, shape, m), shape)
                    self.assertEqual(left_form(lengths, shape, m), shape)
                    self.assertEqual(form_number(lengths, shape, m), shape_number(shape))
                    self.assertEqual(class_size(lengths, shape, m), 1)
                    self.assertEqual(class_of(lengths, shape, m), [shape])
                    others = [regrouped(shape, *step) for step in regroupings(shape)]
                    self.assertEqual(neighbours(lengths, shape, m), sorted(others, key=shape_number))

    def test_sizes_of_all_classes_make_all_shapes(self):
        sizes = class_sizes(SPARSE, 2)
        self.assertEqual(len(sizes), 1024)
        self.assertEqual(len(sizes), classes_many(SPARSE, 2))
        self.assertEqual(sum(sizes), shapes_many(40))
        for number in (0, 1, 500, 1023):
            self.assertEqual(sizes[number], class_size(SPARSE, form_at(SPARSE, 2, number), 2))
        greatest = greatest_class(SPARSE, 2)
        self.assertEqual(greatest, (max(sizes), form_at(SPARSE, 2, sizes.index(max(sizes)))))

    def test_members_of_classes(self):
        some = 0
        for lengths, tree, m in long_cases(11):
            shape = shape_of(tree)
            size = class_size(lengths, shape, m)
            if size <= 2000:
                some += 1
                members = class_of(lengths, shape, m)
                self.assertEqual(len(members), size)
                self.assertEqual(sorted(set(members), key=shape_number), members)
                self.assertIn(shape, members)
                self.assertIn(form(lengths, shape, m), members)
                self.assertIn(left_form(lengths, shape, m), members)
                for member in members[::50]:
                    self.assertIs(same_class(lengths, shape, member, m), True)
            else:
                self.assertIs(error_kind(class_of, lengths, shape, m), TooMany)
                self.assertIs(error_kind(neighbours, lengths, shape, m), TooMany)
        self.assertGreater(some, 10)

    def test_neighbours_of_a_great_class(self):
        chance = random.Random(12)
        lengths = (1,) * 40
        found = None
        while found is None:
            shape = shape_at(40, chance.randrange(shapes_many(40)))
            if 500 <= class_size(lengths, shape, 8) <= 2000:
                found = shape
        forms = neighbours(lengths, found, 8)
        expected = set()
        spots = places(lengths)
        for member in class_of(lengths, found, 8)[::20]:
            for one, other in regroupings(member):
                if abs(spots[one] - spots[other]) < 8:
                    expected.add(form(lengths, regrouped(member, one, other), 8))
        self.assertLessEqual(expected, set(forms))
        self.assertEqual(sorted(set(forms), key=shape_number), forms)
        self.assertNotIn(form(lengths, found, 8), forms)
        for shape in forms:
            self.assertIs(is_form(lengths, shape, 8), True)

    def test_unlike_near(self):
        for lengths, tree, m in long_cases(13):
            one, other = shape_of(tree), shape_of(long_trees(1, 14)[0])
            expected = sorted((p, q) for distance, p, q in unlike(lengths, one, other) if distance < m)
            self.assertEqual(unlike_near(lengths, one, other, m), expected)
            self.assertIs(same_class(lengths, one, other, m), expected == [])


class Limits(unittest.TestCase):
    def test_two_thousand_shapes(self):
        self.assertEqual(class_size(*JUST_2000), 2000)
        members = class_of(*JUST_2000)
        self.assertEqual(len(members), 2000)
        self.assertEqual(sorted(set(members), key=shape_number), members)
        self.assertTrue(all(same_class(JUST_2000[0], JUST_2000[1], member, 8) for member in members[::40]))
        self.assertIsInstance(neighbours(*JUST_2000), list)

    def test_more_than_two_thousand_shapes(self):
        self.assertEqual(class_size(*JUST_2001), 2001)
        for function in (class_of, neighbours):
            error = raised(function, *JUST_2001)
            self.assertIs(error.__class__, TooMany)
            self.assertEqual(error.most, 2000)

    def test_two_thousand_classes(self):
        self.assertEqual(classes_many(*MANY_2000), 2000)
        sizes = class_sizes(*MANY_2000)
        self.assertEqual(len(sizes), 2000)
        self.assertEqual(sum(sizes), shapes_many(15))
        self.assertEqual(greatest_class(*MANY_2000)[0], max(sizes))

    def test_more_than_two_thousand_classes(self):
        self.assertEqual(classes_many(*MANY_2002), 2002)
        for function in (class_sizes, greatest_class):
            for given in (MANY_2002, ((1,) * 40, 2), ((1,) * 40, MOST_M)):
                error = raised(function, *given)
                self.assertIs(error.__class__, TooMany)
                self.assertEqual(error.most, 2000)

    def test_one_word(self):
        for m in (1, 2, MOST_M):
            self.assertEqual(form((5,), (), m), ())
            self.assertEqual(left_form((5,), (), m), ())
            self.assertIs(is_form((5,), (), m), True)
            self.assertIs(same_class((5,), (), (), m), True)
            self.assertEqual(classes_many((5,), m), 1)
            self.assertEqual(form_at((5,), m, 0), ())
            self.assertEqual(form_number((5,), (), m), 0)
            self.assertEqual(class_size((5,), (), m), 1)
            self.assertEqual(class_of((5,), (), m), [()])
            self.assertEqual(neighbours((5,), (), m), [])
            self.assertEqual(class_sizes((5,), m), [1])
            self.assertEqual(greatest_class((5,), m), (1, ()))
            self.assertEqual(unlike_near((5,), (), (), m), [])
        self.assertEqual(first_joined((5,), ()), ())
        self.assertEqual(first_joined((5, 5), (0,)), ())


THREE = (1, 2, 3)
# Each function, arguments that are right, and which of them are which.
CALLS = (
    (form, (THREE, (0, 1), 2), "lsm"), (left_form, (THREE, (0, 1), 2), "lsm"), (is_form, (THREE, (0, 1), 2), "lsm"),
    (form_number, (THREE, (0, 1), 2), "lsm"), (class_size, (THREE, (0, 1), 2), "lsm"),
    (class_of, (THREE, (0, 1), 2), "lsm"), (neighbours, (THREE, (0, 1), 2), "lsm"),
    (same_class, (THREE, (0, 1), (1, 0), 2), "lssm"), (unlike_near, (THREE, (0, 1), (1, 0), 2), "lssm"),
    (classes_many, (THREE, 2), "lm"), (class_sizes, (THREE, 2), "lm"), (greatest_class, (THREE, 2), "lm"),
    (form_at, (THREE, 2, 0), "lmn"), (first_joined, (THREE, (0, 1)), "ls"),
)
WRONG = {
    "l": (NoLengths, no_lengths()),
    "s": (NoShape, no_shapes() + [(), (0,), (1, 0, 1), right_comb(40)]),
    "m": (NoNumber, no_integers() + [0, -1, MOST_M + 1, 10 ** 40, -10 ** 40]),
    "n": (NoNumber, no_integers() + [-1, 1, 2, 10 ** 40, -10 ** 40]),
}


class Refused(unittest.TestCase):
    def test_each_wrong_argument(self):
        for function, given, kinds in CALLS:
            for at, letter in enumerate(kinds):
                kind, things = WRONG[letter]
                for thing in things:
                    wrong = given[:at] + (thing,) + given[at + 1:]
                    self.assertIs(error_kind(function, *wrong), kind, (function.__name__, at, thing))

    def test_the_first_of_two_wrong_arguments(self):
        for function, given, kinds in CALLS:
            for first, second in itertools.combinations(range(len(kinds)), 2):
                kind, things = WRONG[kinds[first]]
                for thing in things:
                    for other in (None, (), 0, thing):
                        wrong = list(given)
                        wrong[first], wrong[second] = thing, other
                        self.assertIs(error_kind(function, *wrong), kind, (function.__name__, first, second, thing))

    def test_the_greatest_m(self):
        for function, given, kinds in CALLS:
            at = kinds.find("m")
            if at >= 0:
                for m in (1, MOST_M):
                    self.assertIsNone(raised(function, *given[:at], m, *given[at + 1:]))

    def test_too_many_comes_behind_the_arguments(self):
        for function in (class_of, neighbours):
            self.assertIs(error_kind(function, (1,) * 40, left_comb(40), 0), NoNumber)
            self.assertIs(error_kind(function, (1,) * 40, left_comb(39), 1), NoShape)
            self.assertIs(error_kind(function, (1,) * 40, left_comb(40), 1), TooMany)

    def test_lists_are_new(self):
        calls = (
            (class_of, (THREE, (0, 1), 2)), (neighbours, (THREE, (0, 1), MOST_M)), (class_sizes, (THREE, 2)),
            (unlike_near, (THREE, (0, 1), (1, 0), 9)), (neighbours, ((1,), (), 1)), (unlike_near, ((1,), (), (), 1)),
        )
        for function, given in calls:
            kept = list(function(*given))
            found = function(*given)
            self.assertIs(found.__class__, list)
            found.append(1)
            found[0] = None
            self.assertEqual(function(*given), kept)


if __name__ == "__main__":
    unittest.main()
