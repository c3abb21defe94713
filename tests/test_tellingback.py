"""[18]: brackets told back from what was heard."""

import functools
import random
import unittest

from heardseams.books import Book
from heardseams.errors import NoRow, NoWords, TooMany
from heardseams.saying import said
from heardseams.shapes import all_shapes, shapes_many, stands
from heardseams.tellingback import asks, heard_as, sayings, surely
from tests.helper import (
    error_kind, no_rows, no_words, raised, random_row, say_by_hand, shape_of, some_phrases, standing, trees,
)

SILENT = Book(2, 1, 1, {})
ONES = Book(2, 1, 1, {((0,), (0,)): ((1,), (0,))})


def heard_by_hand(book, words):
    """A dict from all rows that are said to the trees, in order, that are said so."""
    found = {}
    for tree in trees(0, len(words) - 1):
        found.setdefault(say_by_hand(book, words, tree), []).append(tree)
    return found


def pairs(words):
    return [(p, q) for q in range(words - 1) for p in range(q)]


def answers_of(tree, words):
    return tuple(standing(tree, p, q) for p, q in pairs(words))


def fewest_questions(rows):
    """The least greatest number of columns that have to be looked at to know which of the rows it is."""

    @functools.lru_cache(maxsize=None)
    def least(group):
        if len(group) == 1:
            return 0
        best = len(rows[0])
        for column in range(len(rows[0])):
            parts = {}
            for row in group:
                parts.setdefault(row[column], []).append(row)
            if len(parts) > 1:
                best = min(best, 1 + max(least(tuple(part)) for part in parts.values()))
        return best

    return least(tuple(rows))


def some(seed, longest=3):
    """Books with words of theirs, of 1 to 6 words."""
    return [phrase for many in range(1, 7) for phrase in some_phrases(seed + many, 9, many, longest)]


class HeardAs(unittest.TestCase):
    def test_by_hand(self):
        words = ((0,),) * 3
        self.assertEqual(heard_as(ONES, words, (0, 1, 0)), [(0, 1)])
        self.assertEqual(heard_as(ONES, words, (1, 1, 0)), [(1, 0)])
        self.assertEqual(heard_as(ONES, words, (0, 0, 0)), [])
        self.assertEqual(heard_as(SILENT, words, (0, 0, 0)), [(0, 1), (1, 0)])

    def test_all_shapes_said_one_by_one(self):
        for book, words in some(100):
            found = heard_by_hand(book, words)
            for row, alike in found.items():
                self.assertEqual(heard_as(book, words, row), [shape_of(tree) for tree in alike])

    def test_rows_that_are_not_said(self):
        chance = random.Random(1)
        for book, words in some(110):
            found = heard_by_hand(book, words)
            many = sum(len(word) for word in words)
            for length in (many, many, many, many + 1, max(1, many - 1), 4000):
                row = random_row(chance, book.sounds(), length)
                if row not in found:
                    self.assertEqual(heard_as(book, words, row), [])

    def test_one_word(self):
        self.assertEqual(heard_as(SILENT, ((0, 1),), (0, 1)), [()])
        self.assertEqual(heard_as(SILENT, ((0, 1),), (0, 0)), [])
        self.assertEqual(heard_as(SILENT, ((0, 1),), (0,)), [])

    def test_nine_words(self):
        self.assertEqual(heard_as(SILENT, ((0,) * 200,) * 9, (0,) * 1800), all_shapes(9))
        for book, words in some_phrases(120, 4, 9, 2):
            rows = {shape: said(book, words, shape) for shape in all_shapes(9)}
            for row in sorted(set(rows.values()))[:20]:
                self.assertEqual(heard_as(book, words, row), [shape for shape in rows if rows[shape] == row])

    def test_a_list_is_new(self):
        found = heard_as(SILENT, ((0,),) * 3, (0, 0, 0))
        found.clear()
        self.assertEqual(heard_as(SILENT, ((0,),) * 3, (0, 0, 0)), [(0, 1), (1, 0)])
        heard_as(ONES, ((0,),) * 3, (0,)).append(1)
        self.assertEqual(heard_as(ONES, ((0,),) * 3, (0,)), [])


class Sayings(unittest.TestCase):
    def test_by_hand(self):
        self.assertEqual(sayings(ONES, ((0,),) * 3), {(0, 1, 0): 1, (1, 1, 0): 1})
        self.assertEqual(sayings(SILENT, ((0,), (1,), (0,))), {(0, 1, 0): 2})
        self.assertEqual(sayings(SILENT, ((0, 1),)), {(0, 1): 1})

    def test_all_shapes_said_one_by_one(self):
        for book, words in some(130):
            found = heard_by_hand(book, words)
            self.assertEqual(sayings(book, words), {row: len(found[row]) for row in found})

    def test_nine_words(self):
        for book, words in some_phrases(140, 4, 9, 3):
            found = sayings(book, words)
            self.assertEqual(sum(found.values()), shapes_many(9))
            for row in list(found)[:10]:
                self.assertEqual(found[row], len(heard_as(book, words, row)))
        self.assertEqual(sayings(SILENT, ((0,) * 200,) * 9), {(0,) * 1800: 1430})

    def test_a_dict_is_new(self):
        found = sayings(SILENT, ((0,), (1,)))
        found[0, 1] = 5
        self.assertEqual(sayings(SILENT, ((0,), (1,))), {(0, 1): 1})


class Surely(unittest.TestCase):
    def test_by_hand(self):
        words = ((0,),) * 3
        self.assertEqual(surely(ONES, words, (0, 1, 0)), {(0, 1): "over"})
        self.assertEqual(surely(ONES, words, (1, 1, 0)), {(0, 1): "under"})
        self.assertEqual(surely(SILENT, words, (0, 0, 0)), {(0, 1): None})
        self.assertIsNone(surely(SILENT, words, (0, 0, 1)))

    def test_no_pair_of_seams(self):
        self.assertEqual(surely(SILENT, ((0,),), (0,)), {})
        self.assertEqual(surely(SILENT, ((0,), (1,)), (0, 1)), {})
        self.assertIsNone(surely(SILENT, ((0,),), (1,)))
        self.assertIsNone(surely(SILENT, ((0,), (1,)), (1, 1)))

    def test_against_the_standings_of_all_trees_that_are_said_so(self):
        known = set()
        for book, words in some(150):
            for row, alike in heard_by_hand(book, words).items():
                expected = {}
                for p, q in pairs(len(words)):
                    ways = {standing(tree, p, q) for tree in alike}
                    expected[p, q] = ways.pop() if len(ways) == 1 else None
                self.assertEqual(surely(book, words, row), expected)
                known.update(expected.values())
        self.assertEqual(known, {"over", "under", "neither", None})

    def test_nine_words(self):
        book, words = some_phrases(160, 1, 9, 2)[0]
        for row in list(sayings(book, words))[:8]:
            shapes = heard_as(book, words, row)
            found = surely(book, words, row)
            self.assertEqual(len(found), 28)
            for p, q in found:
                ways = {stands(shape, p, q) for shape in shapes}
                self.assertEqual(found[p, q], ways.pop() if len(ways) == 1 else None)

    def test_a_dict_is_new(self):
        found = surely(ONES, ((0,),) * 3, (0, 1, 0))
        found.clear()
        self.assertEqual(surely(ONES, ((0,),) * 3, (0, 1, 0)), {(0, 1): "over"})


class Asks(unittest.TestCase):
    def test_by_hand(self):
        words = ((0,),) * 3
        self.assertEqual(asks(ONES, words, (0, 1, 0)), 0)
        self.assertEqual(asks(SILENT, words, (0, 0, 0)), 1)
        self.assertIsNone(asks(SILENT, words, (0, 0, 1)))
        self.assertEqual(asks(SILENT, ((0,),), (0,)), 0)
        self.assertEqual(asks(SILENT, ((0,), (0,)), (0, 0)), 0)
        self.assertIsNone(asks(SILENT, ((0,),), (1,)))

    def test_all_shapes_said_alike(self):
        for many in range(1, 7):
            rows = [answers_of(tree, many) for tree in trees(0, many - 1)]
            self.assertEqual(asks(SILENT, ((0,),) * many, (0,) * many), fewest_questions(rows))

    def test_against_a_search_through_all_questions(self):
        found = set()
        for book, words in some(170) + some(180, 1):
            for row, alike in heard_by_hand(book, words).items():
                fewest = fewest_questions([answers_of(tree, len(words)) for tree in alike])
                self.assertEqual(asks(book, words, row), fewest)
                found.add(fewest)
        self.assertEqual(found, {0, 1, 2, 3, 4})

    def test_each_question_hangs_on_the_answers_ahead(self):
        rows = [answers_of(tree, 4) for tree in trees(0, 3)]
        for column in range(3):
            left = {row[:column] + row[column + 1:] for row in rows}
            self.assertLess(len(left), 5)
        # Two questions that are chosen ahead leave more than one of the five shapes.
        self.assertEqual(asks(SILENT, ((0,),) * 4, (0,) * 4), 2)


class Refused(unittest.TestCase):
    def test_no_words(self):
        for thing in no_words(2):
            self.assertIs(error_kind(sayings, SILENT, thing), NoWords, thing)
            for function in (heard_as, surely, asks):
                for row in ((0,), None, thing):
                    self.assertIs(error_kind(function, SILENT, thing, row), NoWords, thing)

    def test_no_row(self):
        for thing in no_rows(2):
            for function in (heard_as, surely, asks):
                for many in (1, 6, 7, 9, 10, 40):
                    self.assertIs(error_kind(function, SILENT, ((0,),) * many, thing), NoRow, thing)

    def check_too_many(self, most, function, *given):
        error = raised(function, *given)
        self.assertIs(error.__class__, TooMany)
        self.assertEqual(error.most, most)

    def test_ten_words(self):
        for many in (10, 11, 40):
            words = ((0,),) * many
            self.check_too_many(9, sayings, SILENT, words)
            for function in (heard_as, surely):
                for row in ((0,) * many, (1,)):
                    self.check_too_many(9, function, SILENT, words, row)

    def test_seven_words(self):
        self.assertEqual(asks(SILENT, ((0,),) * 6, (0,) * 6), 4)
        self.assertIsNone(asks(SILENT, ((0,),) * 6, (0,) * 7))
        for many in (7, 8, 9, 10, 40):
            for row in ((0,) * many, (1,)):
                self.check_too_many(6, asks, SILENT, ((0,),) * many, row)


if __name__ == "__main__":
    unittest.main()
