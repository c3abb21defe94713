"""[23]: orders in time, what they make and how they are said, where joinings look, the history of a place."""

import itertools
import random
import unittest
from math import comb, factorial

from heardseams.books import Book
from heardseams.errors import NoNumber, NoOrder, NoShape, NoWords, TooMany
from heardseams.intime import history, looked_at, orders_many, orders_of, said_in_time, shape_in_time
from heardseams.saying import changes, left_alone, said
from heardseams.shapes import all_shapes, is_shape, joined_shape, stands, turned
from tests.helper import (
    error_kind, joinings_by_hand, left_comb, long_trees, meet_by_hand, no_integers, no_shapes, no_words, odd_things,
    raised, right_comb, shape_of, some_phrases, trees, zigzag,
)

BOOK = Book(3, 1, 1, {((a,), (b,)): ((1,), (a,)) for a in range(3) for b in range(3)})


def tree_in_time(order):
    """The tree that comes about when phrases are joined in this order."""
    parts = [(at, at, at) for at in range(len(order) + 1)]
    for seam in order:
        at = [last for _, last, _ in parts].index(seam)
        one, other = parts[at:at + 2]
        parts[at:at + 2] = [(one[0], other[1], (one[2], other[2]))]
    return parts[0][2]


def row_in_time(book, words, order):
    """What is said when phrases are joined in this order."""
    parts = [(at, word) for at, word in enumerate(words)]
    for seam in order:
        at = [last for last, _ in parts].index(seam)
        one, other = parts[at:at + 2]
        parts[at:at + 2] = [(other[0], meet_by_hand(book, one[1], other[1]))]
    return parts[0][1]


def random_order(chance, seams):
    return tuple(chance.sample(range(seams), seams))


def branched(factors):
    """A shape with the product of the factors, which ascend by two or more, as the number of its orders."""
    shape = (0,)
    for factor in factors:
        while len(shape) < factor - 1:
            shape = joined_shape((), shape)
        shape = joined_shape((0,), shape)
    return shape


def no_orders():
    return [thing for thing in odd_things() if thing != ()] + [
        [0], (1,), (-1,), (0, 0), (1, 1), (0, 2), (1, 2), (0, -1), (0, True), (False,), (0, None), (0, "1"), (0, [1]),
        (0, 1, 3), (0, 1, 1), tuple(range(1, 5)), tuple(range(40)), tuple(range(41)), tuple(range(38)) + (39,),
        tuple(range(38)) + (37,), (0, 10 ** 40), tuple(range(1000)),
    ]


class ShapeInTime(unittest.TestCase):
    def test_by_hand(self):
        self.assertEqual(shape_in_time(()), ())
        self.assertEqual(shape_in_time((0,)), (0,))
        self.assertEqual(shape_in_time((0, 1)), (1, 0))
        self.assertEqual(shape_in_time((1, 0)), (0, 1))
        self.assertEqual(shape_in_time((0, 2, 1)), (1, 0, 1))
        self.assertEqual(shape_in_time((2, 0, 1)), (1, 0, 1))
        self.assertEqual(shape_in_time((1, 2, 0)), (0, 2, 1))

    def test_all_orders_of_a_few_seams(self):
        for seams in range(7):
            for order in itertools.permutations(range(seams)):
                self.assertEqual(shape_in_time(order), shape_of(tree_in_time(order)))

    def test_thirty_nine_seams(self):
        chance = random.Random(1)
        for _ in range(30):
            order = random_order(chance, 39)
            self.assertTrue(is_shape(shape_in_time(order)))
            self.assertEqual(shape_in_time(order), shape_of(tree_in_time(order)))
        self.assertEqual(shape_in_time(tuple(range(39))), left_comb(40))
        self.assertEqual(shape_in_time(tuple(range(39))[::-1]), right_comb(40))

    def test_no_order(self):
        for thing in no_orders():
            self.assertIs(error_kind(shape_in_time, thing), NoOrder, thing)


class Orders(unittest.TestCase):
    def test_all_orders_listed_and_tried(self):
        for words in range(1, 8):
            found = {}
            for order in itertools.permutations(range(words - 1)):
                found.setdefault(shape_of(tree_in_time(order)), []).append(order)
            self.assertEqual(sorted(found), sorted(all_shapes(words)))
            for shape, orders in found.items():
                self.assertEqual(orders_many(shape), len(orders))
                self.assertEqual(orders_of(shape), orders)

    def test_no_seam(self):
        self.assertEqual(orders_many(()), 1)
        self.assertEqual(orders_of(()), [()])

    def test_one_order(self):
        for words in (2, 3, 9, 40):
            for shape in (left_comb(words), right_comb(words), zigzag(words)):
                self.assertEqual(orders_many(shape), 1)
                (order,) = orders_of(shape)
                self.assertEqual(shape_in_time(order), shape)

    def test_the_orders_of_all_shapes_together(self):
        for words in (8, 9):
            self.assertEqual(sum(orders_many(shape) for shape in all_shapes(words)), factorial(words - 1))

    def by_the_parts(self, tree):
        """How many orders there are: those of both parts, put into each other in all ways."""
        if isinstance(tree, int):
            return 0, 1
        (one, ones), (other, others) = map(self.by_the_parts, tree)
        return one + other + 1, ones * others * comb(one + other, one)

    def test_forty_words(self):
        for tree in long_trees(40, 2):
            self.assertEqual(orders_many(shape_of(tree)), self.by_the_parts(tree)[1])

    def test_just_a_thousand(self):
        shape = branched((5, 10, 20))
        self.assertEqual(orders_many(shape), 1000)
        for same in (shape, turned(shape)):
            found = orders_of(same)
            self.assertEqual(len(found), 1000)
            self.assertEqual(found, sorted(set(found)))
            for order in found:
                self.assertEqual(shape_in_time(order), same)
        while len(shape) < 39:
            shape = joined_shape(shape, ())
        self.assertEqual(len(orders_of(shape)), 1000)

    def test_more_than_a_thousand(self):
        shapes = [branched((7, 11, 13)), turned(branched((7, 11, 13))), shape_of(long_trees(1, 3)[0])]
        self.assertEqual(orders_many(shapes[0]), 1001)
        for shape in shapes:
            error = raised(orders_of, shape)
            self.assertIs(error.__class__, TooMany)
            self.assertEqual(error.most, 1000)

    def test_ascending(self):
        shape = joined_shape(left_comb(4), right_comb(5))
        found = orders_of(shape)
        self.assertEqual(found, sorted(set(found)))
        self.assertEqual(len(found), comb(7, 3))

    def test_a_list_is_new(self):
        found = orders_of((1, 0, 1))
        found.pop()
        self.assertEqual(orders_of((1, 0, 1)), [(0, 2, 1), (2, 0, 1)])
        orders_of(()).append(1)
        self.assertEqual(orders_of(()), [()])

    def test_no_shape(self):
        for thing in no_shapes():
            self.assertIs(error_kind(orders_many, thing), NoShape, thing)
            self.assertIs(error_kind(orders_of, thing), NoShape, thing)


class SaidInTime(unittest.TestCase):
    def test_joined_in_all_orders(self):
        for many in range(1, 6):
            for book, words in some_phrases(200 + many, 5, many, 3):
                for order in itertools.permutations(range(many - 1)):
                    found = said_in_time(book, words, order)
                    self.assertEqual(found, row_in_time(book, words, order))
                    self.assertEqual(found, said(book, words, shape_in_time(order)))

    def test_all_orders_of_a_shape_are_said_alike(self):
        book, words = some_phrases(210, 1, 7, 1)[0]
        for shape in all_shapes(7)[::7]:
            rows = {said_in_time(book, words, order) for order in orders_of(shape)}
            self.assertEqual(rows, {said(book, words, shape)})

    def test_forty_words(self):
        chance = random.Random(3)
        for book, words in some_phrases(220, 8, 40, 3):
            order = random_order(chance, 39)
            self.assertEqual(said_in_time(book, words, order), row_in_time(book, words, order))

    def test_one_word(self):
        self.assertEqual(said_in_time(BOOK, ((0, 2),), ()), (0, 2))

    def test_no_words(self):
        for thing in no_words(3):
            for order in ((0,), (), None):
                self.assertIs(error_kind(said_in_time, BOOK, thing, order), NoWords, thing)

    def test_no_order(self):
        for many in (1, 2, 3, 40):
            words = ((0,),) * many
            for thing in no_orders() + [tuple(range(many)), tuple(range(many - 2)) if many > 1 else (0,)]:
                self.assertIs(error_kind(said_in_time, BOOK, words, thing), NoOrder, thing)


class LookedAt(unittest.TestCase):
    def by_hand(self, book, words, tree):
        starts = [sum(len(word) for word in words[:at]) for at in range(len(words) + 1)]
        found = {}
        for seam, first, last in joinings_by_hand(tree):
            ahead = range(starts[first], starts[seam + 1])[-book.ahead():]
            behind = range(starts[seam + 1], starts[last + 1])[:book.behind()]
            found[seam] = (ahead[0], behind[-1])
        return [found[seam] for seam in sorted(found)]

    def test_by_hand(self):
        words = ((0,) * 5, (0,), (0,) * 6)
        self.assertEqual(looked_at(Book(1, 2, 3, {}), words, (0, 1)), [(3, 7), (5, 8)])
        self.assertEqual(looked_at(Book(1, 2, 3, {}), words, (1, 0)), [(3, 5), (4, 8)])
        self.assertEqual(looked_at(Book(1, 4, 4, {}), ((0,), (0,)), (0,)), [(0, 1)])

    def test_all_trees_of_a_few_words(self):
        for many in range(1, 6):
            for book, words in some_phrases(230 + many, 6, many, 5):
                for tree in trees(0, many - 1):
                    self.assertEqual(looked_at(book, words, shape_of(tree)), self.by_hand(book, words, tree))

    def test_forty_words(self):
        for at, tree in enumerate(long_trees(6, 4)):
            for book, words in some_phrases(240 + at, 2, 40, 6):
                self.assertEqual(looked_at(book, words, shape_of(tree)), self.by_hand(book, words, tree))

    def test_the_places_left_alone_are_the_others(self):
        for at, tree in enumerate(long_trees(4, 5)):
            book, words = some_phrases(250 + at, 1, 40, 12)[0]
            seen = set()
            for first, last in looked_at(book, words, shape_of(tree)):
                seen.update(range(first, last + 1))
            others = [place for place in range(sum(map(len, words))) if place not in seen]
            self.assertEqual(left_alone(book, words, shape_of(tree)), tuple(others))

    def test_one_word(self):
        self.assertEqual(looked_at(BOOK, ((0, 1),), ()), [])

    def test_a_list_is_new(self):
        looked_at(BOOK, ((0,), (1,)), (0,)).clear()
        self.assertEqual(looked_at(BOOK, ((0,), (1,)), (0,)), [(0, 1)])
        looked_at(BOOK, ((0,),), ()).append(1)
        self.assertEqual(looked_at(BOOK, ((0,),), ()), [])


class History(unittest.TestCase):
    def by_hand(self, book, words, tree):
        """A list for each place of the row, found by saying each phrase by itself."""
        found = [[(None, sound)] for word in words for sound in word]
        starts = [sum(len(word) for word in words[:at]) for at in range(len(words) + 1)]

        def say(part):
            if isinstance(part, int):
                return part, part, words[part]
            first, seam, one = say(part[0])
            _, last, other = say(part[1])
            row = meet_by_hand(book, one, other)
            for at in range(max(0, len(one) - book.ahead()), min(len(row), len(one) + book.behind())):
                found[starts[first] + at].append((seam, row[at]))
            return first, last, row

        say(tree)
        return found

    def test_by_hand(self):
        words = ((0, 2), (2,), (0, 0))
        self.assertEqual(history(BOOK, words, (1, 0), 2), [(None, 2), (0, 2), (1, 1)])
        self.assertEqual(history(BOOK, words, (0, 1), 2), [(None, 2), (1, 1), (0, 2)])
        self.assertEqual(history(BOOK, words, (0, 1), 0), [(None, 0)])
        self.assertEqual(history(BOOK, words, (0, 1), 4), [(None, 0)])
        self.assertEqual(history(BOOK, ((1, 2),), (), 1), [(None, 2)])

    def test_all_trees_of_a_few_words(self):
        for many in range(1, 6):
            for book, words in some_phrases(260 + many, 5, many, 3):
                for tree in trees(0, many - 1):
                    found = self.by_hand(book, words, tree)
                    for place in range(len(found)):
                        self.assertEqual(history(book, words, shape_of(tree), place), found[place])

    def test_forty_words(self):
        for at, tree in enumerate(long_trees(3, 6)):
            book, words = some_phrases(270 + at, 1, 40, 2)[0]
            found = self.by_hand(book, words, tree)
            shape = shape_of(tree)
            row = said(book, words, shape)
            for place in range(len(found)):
                self.assertEqual(history(book, words, shape, place), found[place])
                self.assertEqual(history(book, words, shape, place)[-1][1], row[place])

    def test_changes_are_steps_of_a_history(self):
        book, words = some_phrases(280, 1, 9, 2)[0]
        for shape in all_shapes(9)[::100]:
            for seam, place, old, new in changes(book, words, shape):
                steps = history(book, words, shape, place)
                at = [step[0] for step in steps].index(seam)
                self.assertEqual((steps[at - 1][1], steps[at][1]), (old, new))

    def test_every_seam_that_looks_there(self):
        book, words = some_phrases(281, 1, 7, 2)[0]
        for shape in all_shapes(7)[::11]:
            looked = looked_at(book, words, shape)
            for place in range(sum(map(len, words))):
                seams = [seam for seam, _ in history(book, words, shape, place)[1:]]
                self.assertEqual(sorted(seams), [
                    seam for seam, (first, last) in enumerate(looked) if first <= place <= last
                ])
                for one, other in itertools.combinations(seams, 2):
                    self.assertNotEqual(stands(shape, one, other), "over")

    def test_no_number(self):
        for words, shape in ((((0, 1),), ()), (((0,), (1, 2)), (0,))):
            many = sum(map(len, words))
            for thing in no_integers() + [-1, many, many + 1, 10 ** 40, -10 ** 40]:
                self.assertIs(error_kind(history, BOOK, words, shape, thing), NoNumber, thing)
            history(BOOK, words, shape, many - 1)

    def test_a_list_is_new(self):
        history(BOOK, ((0,),), (), 0).append(1)
        self.assertEqual(history(BOOK, ((0,),), (), 0), [(None, 0)])


class Refused(unittest.TestCase):
    def test_no_words(self):
        for thing in no_words(3):
            for shape in ((0,), (), None):
                self.assertIs(error_kind(looked_at, BOOK, thing, shape), NoWords, thing)
                self.assertIs(error_kind(history, BOOK, thing, shape, None), NoWords, thing)

    def test_no_shape(self):
        words = ((0,), (1, 2), (0,))
        for thing in no_shapes() + [(), (0,), (1, 0, 1), (0, 1, 2)]:
            self.assertIs(error_kind(looked_at, BOOK, words, thing), NoShape, thing)
            for place in (0, None):
                self.assertIs(error_kind(history, BOOK, words, thing, place), NoShape, thing)


if __name__ == "__main__":
    unittest.main()
