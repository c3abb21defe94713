"""[6]: ballots."""

import unittest

from heardseams.errors import NoBallot, NoShape
from heardseams.shapes import ballot, from_ballot
from tests.helper import (
    ballot_of, error_kind, left_comb, long_trees, no_shapes, odd_things, right_comb, shape_of, trees, zigzag,
)

ALL = [tree for words in range(1, 9) for tree in trees(0, words - 1)] + long_trees(30, 8)


class Ballot(unittest.TestCase):
    def test_every_shape(self):
        for tree in ALL:
            self.assertEqual(ballot(shape_of(tree)), ballot_of(tree))

    def test_examples(self):
        self.assertEqual(ballot(()), ())
        self.assertEqual(ballot((0,)), (1, -1))
        self.assertEqual(ballot((1, 0)), (1, 1, -1, -1))
        self.assertEqual(ballot((0, 1)), (1, -1, 1, -1))

    def test_forty_words(self):
        self.assertEqual(ballot(left_comb(40)), (1,) * 39 + (-1,) * 39)
        self.assertEqual(ballot(right_comb(40)), (1, -1) * 39)

    def test_no_shape(self):
        for thing in no_shapes():
            self.assertIs(error_kind(ballot, thing), NoShape)


class FromBallot(unittest.TestCase):
    def test_there_and_back(self):
        for tree in ALL:
            shape = shape_of(tree)
            self.assertEqual(from_ballot(ballot(shape)), shape)
        for shape in (left_comb(40), right_comb(40), zigzag(40)):
            self.assertEqual(from_ballot(ballot(shape)), shape)

    def test_just_the_ballots_among_all_rows(self):
        rows = [()]
        for votes in range(11):
            right = {ballot_of(tree): shape_of(tree) for tree in trees(0, votes // 2)}
            for row in rows:
                if row in right:
                    self.assertEqual(from_ballot(row), right[row])
                else:
                    self.assertIs(error_kind(from_ballot, row), NoBallot, row)
            rows = [row + (vote,) for row in rows for vote in (1, -1)]

    def test_other_things_are_none(self):
        for thing in [thing for thing in odd_things() if thing != ()]:
            self.assertIs(error_kind(from_ballot, thing), NoBallot)

    def test_other_rows_are_none(self):
        for thing in (
            [1, -1], (True, -1), (1, True, -1, -1), (1, -1, 0), (0, 0), (2, -2), (1, 1, -2), (1, "-1"), (1, None),
            (1, (-1,)), (1, [-1]), (-1, 1), (1, -1, -1, 1), (10 ** 30, -10 ** 30), (1, -1, 1), "1-1", {1: -1},
        ):
            self.assertIs(error_kind(from_ballot, thing), NoBallot, thing)

    def test_of_forty_words_at_most(self):
        self.assertEqual(from_ballot((1,) * 39 + (-1,) * 39), left_comb(40))
        self.assertEqual(from_ballot((1, -1) * 39), right_comb(40))
        for thing in ((1,) * 40 + (-1,) * 40, (1, -1) * 40, (1, -1) * 1000):
            self.assertIs(error_kind(from_ballot, thing), NoBallot)


if __name__ == "__main__":
    unittest.main()
