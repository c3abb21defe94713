"""[11]: alike_in_all and the main fact below it.

The fact is checked against saying itself: the tests say both shapes with a
book that keeps what it hears apart as far as it can, written here.
"""

import unittest

from heardseams.errors import NoLengths, NoNumber, NoShape
from heardseams.numbers import alike_in_all, number
from heardseams.shapes import all_shapes
from tests.helper import error_kind, left_comb, no_integers, no_lengths, no_shapes, right_comb, shape_of, trees, zigzag


def meet(ahead, behind, one, other):
    """Two rows joined: each sound that is looked at becomes a sound that tells all that is seen."""
    left, right = one[-ahead:], other[:behind]
    new = tuple((left, right, at) for at in range(len(left) + len(right)))
    return one[:-ahead] + new[:len(left)] + new[len(left):] + other[behind:]


def say(tree, words, ahead, behind):
    if isinstance(tree, int):
        return words[tree]
    return meet(ahead, behind, say(tree[0], words, ahead, behind), say(tree[1], words, ahead, behind))


def parted_by_some(one, other, lengths, reach):
    """Whether a book of this reach that tells all it sees says the two trees unlike."""
    words = [(0,) * length for length in lengths]
    return any(
        say(one, words, ahead, reach - ahead) != say(other, words, ahead, reach - ahead)
        for ahead in range(1, reach)
    )


class Fact(unittest.TestCase):
    def test_equal_or_the_reach_is_at_most_the_number(self):
        for words in range(1, 6):
            lengths = (2, 1, 3, 1, 2)[:words]
            for one in all_shapes(words):
                for other in all_shapes(words):
                    for reach in range(2, 9):
                        least = number(lengths, one, other)
                        found = alike_in_all(lengths, one, other, reach)
                        self.assertIs(found, least is None or reach <= least)

    def test_some_book_parts_what_is_not_alike_in_all(self):
        for lengths in ((1, 1, 1), (1, 2, 1), (1, 1, 1, 1), (1, 2, 1, 3), (2, 1, 3, 1)):
            both = trees(0, len(lengths) - 1)
            for one in both:
                for other in both:
                    for reach in range(2, 8):
                        found = alike_in_all(lengths, shape_of(one), shape_of(other), reach)
                        self.assertIs(found, not parted_by_some(one, other, lengths, reach))


class AlikeInAll(unittest.TestCase):
    def test_at_the_number_and_at_one_more(self):
        self.assertIs(alike_in_all((1, 1, 1, 1), (1, 2, 0), (0, 2, 1), 2), True)
        self.assertIs(alike_in_all((1, 1, 1, 1), (1, 2, 0), (0, 2, 1), 3), False)
        self.assertIs(alike_in_all((5, 50, 5), (0, 1), (1, 0), 50), True)
        self.assertIs(alike_in_all((5, 50, 5), (0, 1), (1, 0), 51), False)

    def test_the_least_and_the_greatest_reach(self):
        self.assertIs(alike_in_all((1, 1, 1), (0, 1), (1, 0), 2), False)
        self.assertIs(alike_in_all((1, 2, 1), (0, 1), (1, 0), 2), True)
        self.assertIs(alike_in_all((1, 10 ** 6, 1), (0, 1), (1, 0), 10 ** 9), False)
        self.assertIs(alike_in_all((1, 10 ** 6, 1), (0, 1), (1, 0), 10 ** 6), True)
        self.assertIs(alike_in_all((1, 10 ** 6, 1), (0, 1), (1, 0), 10 ** 6 + 1), False)

    def test_equal_shapes(self):
        for reach in (2, 3, 8, 9, 10 ** 9):
            self.assertIs(alike_in_all((1,), (), (), reach), True)
            self.assertIs(alike_in_all((1, 1, 1), (0, 1), (0, 1), reach), True)
            self.assertIs(alike_in_all((1,) * 40, zigzag(40), zigzag(40), reach), True)

    def test_forty_words(self):
        lengths = (10 ** 6,) * 40
        one = (1,) + tuple(range(2, 39)) + (0,)
        other = (0,) + tuple(range(2, 39)) + (1,)
        self.assertIs(alike_in_all(lengths, one, other, 38 * 10 ** 6), True)
        self.assertIs(alike_in_all(lengths, one, other, 38 * 10 ** 6 + 1), False)
        self.assertIs(alike_in_all(lengths, left_comb(40), right_comb(40), 10 ** 6), True)
        self.assertIs(alike_in_all(lengths, left_comb(40), right_comb(40), 10 ** 6 + 1), False)

    def test_no_number(self):
        for thing in no_integers() + [1, 0, -1, 10 ** 9 + 1, 10 ** 40, -10 ** 40]:
            self.assertIs(error_kind(alike_in_all, (1, 1, 1), (0, 1), (1, 0), thing), NoNumber)
            self.assertIs(error_kind(alike_in_all, (1, 1, 1), (0, 1), (0, 1), thing), NoNumber)

    def test_lengths_and_shapes_come_first(self):
        for thing in no_lengths():
            self.assertIs(error_kind(alike_in_all, thing, (0,), (0,), 2), NoLengths)
            self.assertIs(error_kind(alike_in_all, thing, None, None, None), NoLengths)
        for thing in no_shapes() + [(), (0,), (1, 0, 1)]:
            self.assertIs(error_kind(alike_in_all, (1, 2, 3), thing, (0, 1), 2), NoShape)
            self.assertIs(error_kind(alike_in_all, (1, 2, 3), (0, 1), thing, 2), NoShape)
            self.assertIs(error_kind(alike_in_all, (1, 2, 3), thing, (0, 1), None), NoShape)
            self.assertIs(error_kind(alike_in_all, (1, 2, 3), (0, 1), thing, None), NoShape)
        self.assertIs(error_kind(alike_in_all, (1, 2, 3), (), (), 2), NoShape)


if __name__ == "__main__":
    unittest.main()
