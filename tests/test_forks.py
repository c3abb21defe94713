"""[14]: how near seams stand, the shape of a table, groups, forks and the tongue that some shapes share."""

import itertools
import random
import unittest

from heardseams.errors import NoLengths, NoNumber, NoShape, NoShapes, NoTable
from heardseams.forks import forks, groups, near, same_tongue, shape_of as shape_of_table
from heardseams.forms import form, same_class
from heardseams.numbers import number
from heardseams.shapes import all_shapes, shape_at, shapes_many, stands
from tests.helper import (
    distances, error_kind, left_comb, long_trees, near_by_hand, no_integers, no_lengths, no_shapes, odd_things,
    right_comb, shape_of, some_lengths, some_m, trees, zigzag,
)

MOST_M = 10 ** 9
THREE = (1, 2, 3)


def cases(most):
    for words in range(1, most + 1):
        for lengths in some_lengths(words, 20 + words):
            for m in some_m(lengths):
                yield lengths, m


def some_shapes(chance, words, many):
    """Shapes some of which are equal and some of which are close to each other."""
    shapes = [shape_at(words, chance.randrange(shapes_many(words))) for _ in range(max(1, many // 2))]
    while len(shapes) < many:
        shapes.append(chance.choice(shapes))
    chance.shuffle(shapes)
    return shapes


def groups_by_hand(lengths, shapes, m):
    found = []
    for at, shape in enumerate(shapes):
        for group in found:
            if same_class(lengths, shapes[group[0]], shape, m):
                group.append(at)
                break
        else:
            found.append([at])
    return [tuple(group) for group in found]


class Near(unittest.TestCase):
    def test_against_trees(self):
        for lengths, m in cases(5):
            for tree in trees(0, len(lengths) - 1):
                self.assertEqual(near(lengths, shape_of(tree), m), near_by_hand(lengths, tree, m))

    def test_against_stands(self):
        for lengths in some_lengths(40, 21):
            for tree in long_trees(2, 22):
                shape = shape_of(tree)
                for m in (1, 2, 5, 1000, 10 ** 6, 10 ** 7, MOST_M):
                    found = near(lengths, shape, m)
                    pairs = {pair for pair, distance in distances(lengths).items() if distance < m}
                    self.assertEqual(set(found), pairs)
                    for pair in pairs:
                        self.assertEqual(found[pair], stands(shape, *pair))

    def test_ends(self):
        self.assertEqual(near((1, 5, 1), (0, 1), 5), {})
        self.assertEqual(near((1, 5, 1), (0, 1), 6), {(0, 1): "over"})
        self.assertEqual(near((1, 5, 1), (1, 0), 6), {(0, 1): "under"})
        self.assertEqual(near((1, 1, 1, 1), (1, 0, 1), 3)[0, 2], "neither")
        self.assertEqual(near((1,), (), MOST_M), {})
        self.assertEqual(near((1, 1), (0,), MOST_M), {})

    def test_a_dict_is_new(self):
        kept = dict(near(THREE, (0, 1), 9))
        found = near(THREE, (0, 1), 9)
        self.assertIs(found.__class__, dict)
        found[0, 1] = "under"
        found[5, 5] = None
        self.assertEqual(near(THREE, (0, 1), 9), kept)


class ShapeOf(unittest.TestCase):
    def test_the_form_of_the_class(self):
        for lengths, m in cases(6):
            for shape in all_shapes(len(lengths))[::3]:
                self.assertEqual(shape_of_table(lengths, m, near(lengths, shape, m)), form(lengths, shape, m))

    def test_keys_in_another_order(self):
        chance = random.Random(23)
        for lengths in some_lengths(12, 24):
            for m in (2, 5, 2000, MOST_M):
                shape = shape_at(12, chance.randrange(shapes_many(12)))
                table = list(near(lengths, shape, m).items())
                for entries in (table[::-1], chance.sample(table, len(table))):
                    self.assertEqual(shape_of_table(lengths, m, dict(entries)), form(lengths, shape, m))

    def test_forty_words(self):
        for lengths in some_lengths(40, 25):
            for tree in long_trees(4, 26):
                for m in (1, 2, 7, 100, 10 ** 6 + 1, MOST_M):
                    table = near(lengths, shape_of(tree), m)
                    self.assertEqual(shape_of_table(lengths, m, table), form(lengths, shape_of(tree), m))

    def test_all_tables_of_a_few_words(self):
        for lengths in ((1, 1, 1), (1, 1, 1, 1), (2, 1, 3, 1), (1, 1, 3, 1, 1)):
            for m in some_m(lengths):
                pairs = [pair for pair, distance in distances(lengths).items() if distance < m]
                if len(pairs) > 5:
                    continue
                forms = {}
                for shape in all_shapes(len(lengths)):
                    forms[tuple(sorted(near(lengths, shape, m).items()))] = form(lengths, shape, m)
                for standings in itertools.product(("over", "under", "neither"), repeat=len(pairs)):
                    table = dict(zip(pairs, standings))
                    expected = forms.get(tuple(sorted(table.items())))
                    self.assertEqual(shape_of_table(lengths, m, table), expected)

    def test_tables_that_no_shape_has(self):
        for table in (
            {(0, 1): "neither", (1, 2): "over", (0, 2): "over"},
            {(0, 1): "over", (1, 2): "over", (0, 2): "under"},
            {(0, 1): "over", (1, 2): "under", (0, 2): "neither"},
            {(0, 1): "under", (1, 2): "over", (0, 2): "over"},
        ):
            self.assertIsNone(shape_of_table((1, 1, 1, 1), 9, table))
        self.assertIsNone(shape_of_table((1, 1, 1), 2, {(0, 1): "neither"}))

    def test_one_standing_changed_in_forty_words(self):
        chance = random.Random(27)
        lengths = (1,) * 40
        known = {}
        for tree in long_trees(6, 28):
            table = near(lengths, shape_of(tree), MOST_M)
            pair = chance.choice(sorted(table))
            for standing in ("over", "under", "neither"):
                changed = {**table, pair: standing}
                found = shape_of_table(lengths, MOST_M, changed)
                if found is not None:
                    self.assertEqual(near(lengths, found, MOST_M), changed)
                known[found is None] = True
        self.assertEqual(set(known), {True, False})

    def test_the_table_stays_as_it_is(self):
        table = near(THREE, (1, 0), 9)
        kept = list(table.items())
        shape_of_table(THREE, 9, table)
        self.assertEqual(list(table.items()), kept)

    def test_no_table(self):
        good = {(0, 1): "over"}
        self.assertEqual(shape_of_table(THREE, 3, good), (0, 1))
        wrong = odd_things() + [
            list(good.items()), tuple(good), "over", {(1, 0): "over"}, {(0, 0): "over"}, {(0, 2): "over"},
            {(0, 1): "over", (0, 2): "over"}, {(0, 1): "over", (1, 0): "under"}, {(0, 1): "over", None: 1},
            {(0, 1): "over", "": "over"}, {"(0, 1)": "over"}, {0: "over"}, {(0,): "over"}, {(0, 1, 2): "over"},
            {((0, 1),): "over"}, {(0, 1): "Over"}, {(0, 1): "over "}, {(0, 1): ""}, {(0, 1): None}, {(0, 1): True},
            {(0, 1): 0}, {(0, 1): ["over"]}, {(0, 1): ("over",)}, {(0, 1): {}}, {(0, 1): NoTable()},
        ]
        for thing in wrong:
            if thing != good:
                self.assertIs(error_kind(shape_of_table, THREE, 3, thing), NoTable, thing)
        for thing in odd_things():
            if thing != {}:
                self.assertIs(error_kind(shape_of_table, THREE, 2, thing), NoTable, thing)
                self.assertIs(error_kind(shape_of_table, (1,), 2, thing), NoTable, thing)
        self.assertEqual(shape_of_table(THREE, 2, {}), (0, 1))
        self.assertEqual(shape_of_table((1,), 2, {}), ())
        self.assertIs(error_kind(shape_of_table, THREE, 2, good), NoTable)


class Groups(unittest.TestCase):
    def test_all_shapes_of_a_few_words(self):
        for lengths, m in cases(5):
            shapes = all_shapes(len(lengths))
            self.assertEqual(groups(lengths, shapes, m), groups_by_hand(lengths, shapes, m))
            self.assertEqual(groups(lengths, shapes[::-1] * 2, m), groups_by_hand(lengths, shapes[::-1] * 2, m))

    def test_many_shapes_of_many_words(self):
        chance = random.Random(30)
        for lengths in some_lengths(12, 31):
            shapes = some_shapes(chance, 12, 40)
            for m in (1, 2, 4, 50, 1500, 10 ** 6 + 1, MOST_M):
                self.assertEqual(groups(lengths, shapes, m), groups_by_hand(lengths, shapes, m))

    def test_two_hundred_shapes_of_forty_words(self):
        chance = random.Random(32)
        for lengths in some_lengths(40, 33):
            shapes = some_shapes(chance, 40, 200)
            self.assertEqual(groups(lengths, shapes, MOST_M), groups_by_hand(lengths, shapes, MOST_M))
            self.assertEqual(groups(lengths, shapes, 1), [tuple(range(200))])

    def test_one_shape(self):
        self.assertEqual(groups((1,), [()], 5), [(0,)])
        self.assertEqual(groups(THREE, [(0, 1)], MOST_M), [(0,)])


class Forks(unittest.TestCase):
    def by_hand(self, lengths, shapes):
        found = {number(lengths, one, other) for one, other in itertools.combinations(shapes, 2)}
        return sorted(found - {None})

    def test_all_shapes_of_a_few_words(self):
        for words in range(1, 6):
            for lengths in some_lengths(words, 34):
                shapes = all_shapes(words)
                self.assertEqual(forks(lengths, shapes), self.by_hand(lengths, shapes))
                for at in range(0, len(shapes), 3):
                    self.assertEqual(forks(lengths, shapes[at:at + 4]), self.by_hand(lengths, shapes[at:at + 4]))

    def test_many_shapes_of_many_words(self):
        chance = random.Random(35)
        for words in (12, 40):
            for lengths in some_lengths(words, 36):
                shapes = some_shapes(chance, words, 14)
                self.assertEqual(forks(lengths, shapes), self.by_hand(lengths, shapes))

    def test_shapes_that_are_close_to_each_other(self):
        chance = random.Random(37)
        for lengths in some_lengths(9, 38):
            first = all_shapes(9)[700]
            shapes = [shape for shape in all_shapes(9) if number(lengths, first, shape) != min(lengths)]
            shapes = chance.sample(shapes, min(30, len(shapes)))
            self.assertEqual(forks(lengths, shapes), self.by_hand(lengths, shapes))

    def test_two_hundred_shapes(self):
        chance = random.Random(39)
        lengths = some_lengths(40, 40)[3]
        shapes = some_shapes(chance, 40, 200)
        found = forks(lengths, shapes)
        self.assertEqual(sorted(set(found)), found)
        self.assertLess(len(found), 200)
        self.assertLessEqual({number(lengths, shapes[0], shape) for shape in shapes} - {None}, set(found))

    def test_none(self):
        self.assertEqual(forks((1,), [()]), [])
        self.assertEqual(forks(THREE, [(0, 1)]), [])
        self.assertEqual(forks(THREE, [(0, 1)] * 200), [])
        self.assertEqual(forks(THREE, [(0, 1), (1, 0)]), [2])
        self.assertEqual(forks((10 ** 6,) * 40, [left_comb(40), right_comb(40), left_comb(40)]), [10 ** 6])


class SameTongue(unittest.TestCase):
    def by_hand(self, lengths, shapes, m):
        levels = [1] + [fork + 1 for fork in forks(lengths, shapes) if fork + 1 <= m]
        return [groups_by_hand(lengths, shapes, level) for level in levels]

    def test_all_shapes_of_a_few_words(self):
        for lengths, m in cases(5):
            shapes = all_shapes(len(lengths))
            self.assertEqual(same_tongue(lengths, shapes, m), self.by_hand(lengths, shapes, m))

    def test_many_shapes_of_many_words(self):
        chance = random.Random(41)
        for words in (9, 40):
            for lengths in some_lengths(words, 42):
                shapes = some_shapes(chance, words, 20)
                found = forks(lengths, shapes)
                for m in (1, found[0], found[0] + 1, found[-1], found[-1] + 1, MOST_M):
                    self.assertEqual(same_tongue(lengths, shapes, m), self.by_hand(lengths, shapes, m))

    def test_shapes_that_part_one_behind_another(self):
        lengths = (3, 1, 4, 2, 5, 1)
        shapes = [(0, 1, 2, 3, 4), (1, 2, 3, 4, 0), (0, 1, 2, 4, 3), (0, 1, 2, 3, 4), (0, 2, 3, 4, 1)]
        self.assertGreater(len(forks(lengths, shapes)), 2)
        for m in range(1, 20):
            self.assertEqual(same_tongue(lengths, shapes, m), self.by_hand(lengths, shapes, m))

    def test_none_part(self):
        self.assertEqual(same_tongue((1,), [()], MOST_M), [[(0,)]])
        self.assertEqual(same_tongue(THREE, [(0, 1)] * 3, MOST_M), [[(0, 1, 2)]])

    def test_m_at_the_fork_and_one_more(self):
        self.assertEqual(same_tongue(THREE, [(0, 1), (1, 0)], 2), [[(0, 1)]])
        self.assertEqual(same_tongue(THREE, [(0, 1), (1, 0)], 3), [[(0, 1)], [(0,), (1,)]])

    def test_each_list_is_new(self):
        found = same_tongue(THREE, [(0, 1), (1, 0)], 3)
        found[0].append(1)
        found[1].clear()
        found.append(None)
        self.assertEqual(same_tongue(THREE, [(0, 1), (1, 0)], 3), [[(0, 1)], [(0,), (1,)]])


def no_lists_of_shapes():
    """Values that are no lists of 1 to 200 shapes of three words."""
    return odd_things() + [
        ((0, 1),), (0, 1), [(0, 1)] * 201, [(0, 1)] * 1000, [(0, 1), (0,)], [(0,), (0, 1)], [(0, 1), ()], [()],
        [(0, 1, 2)], [(0, 1), right_comb(40)], [(0, 1), None], [(0, 1), [0, 1]], [(0, 1), (0, 0)], {0: (0, 1)},
        [(0, 1), (0, True)], [[(0, 1)]], [((0, 1),)], "(0, 1)",
    ] + [[thing] for thing in no_shapes()] + [[(0, 1), thing] for thing in no_shapes()]


class Refused(unittest.TestCase):
    def test_lengths_first(self):
        for thing in no_lengths():
            for function in (near, shape_of_table, groups, same_tongue):
                self.assertIs(error_kind(function, thing, (0, 1), 2), NoLengths)
                self.assertIs(error_kind(function, thing, None, None), NoLengths)
                self.assertIs(error_kind(function, thing, [(0, 1)], 0), NoLengths)
            self.assertIs(error_kind(forks, thing, [(0, 1)]), NoLengths)
            self.assertIs(error_kind(forks, thing, None), NoLengths)

    def test_no_shape(self):
        for thing in no_shapes() + [(), (0,), (1, 0, 1), zigzag(40)]:
            self.assertIs(error_kind(near, THREE, thing, 2), NoShape)
            self.assertIs(error_kind(near, THREE, thing, None), NoShape)

    def test_no_shapes(self):
        for thing in no_lists_of_shapes():
            for function in (groups, same_tongue):
                self.assertIs(error_kind(function, THREE, thing, 2), NoShapes, thing)
                self.assertIs(error_kind(function, THREE, thing, None), NoShapes, thing)
            self.assertIs(error_kind(forks, THREE, thing), NoShapes, thing)

    def test_no_number(self):
        for thing in no_integers() + [0, -1, MOST_M + 1, 10 ** 40, -10 ** 40]:
            self.assertIs(error_kind(near, THREE, (0, 1), thing), NoNumber)
            self.assertIs(error_kind(groups, THREE, [(0, 1)], thing), NoNumber)
            self.assertIs(error_kind(same_tongue, THREE, [(0, 1)], thing), NoNumber)
            self.assertIs(error_kind(shape_of_table, THREE, thing, {}), NoNumber)
            self.assertIs(error_kind(shape_of_table, THREE, thing, None), NoNumber)

    def test_the_list_stays_as_it_is(self):
        shapes = [(0, 1), (1, 0), (0, 1)]
        groups(THREE, shapes, 3)
        forks(THREE, shapes)
        same_tongue(THREE, shapes, 3)
        self.assertEqual(shapes, [(0, 1), (1, 0), (0, 1)])


if __name__ == "__main__":
    unittest.main()
