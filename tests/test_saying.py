"""[10]: what is said, what changes on the way, what is left alone, rows that meet."""

import random
import unittest

from heardseams.books import Book, from_rules
from heardseams.errors import NoRow, NoShape, NoWords
from heardseams.saying import changes, left_alone, met, said
from tests.helper import (
    error_kind, joinings_by_hand, left_comb, long_trees, meet_by_hand, no_rows, no_shapes, no_words, phrases,
    random_row, right_comb, say_by_hand, shape_of, some_phrases, trees, zigzag,
)

# Two sounds that meet become 1 and what was ahead.
PUSH = Book(3, 1, 1, {((a,), (b,)): ((1,), (a,)) for a in range(3) for b in range(3)})


def changes_by_hand(book, words, tree):
    """The changes of the tree, found by saying each phrase before and behind its own joining."""
    found = []
    starts = [sum(len(word) for word in words[:at]) for at in range(len(words) + 1)]

    def say(part):
        if isinstance(part, int):
            return words[part], part
        one, first = say(part[0])
        other, _ = say(part[1])
        new = meet_by_hand(book, one, other)
        seam = [seam for seam, phrase in phrases(part).items() if phrase[2] == 0][0]
        for at, (before, behind) in enumerate(zip(one + other, new)):
            if before != behind:
                found.append((seam, starts[first] + at, before, behind))
        return new, first

    say(tree)
    return found


class Said(unittest.TestCase):
    def test_by_hand(self):
        words = ((0, 2), (2,), (0, 0))
        self.assertEqual(said(PUSH, words, (0, 1)), (0, 1, 2, 2, 0))
        self.assertEqual(said(PUSH, words, (1, 0)), (0, 1, 1, 2, 0))

    def test_all_trees_of_a_few_words(self):
        for words in range(1, 6):
            for book, row in some_phrases(words, 12, words, 5):
                for tree in trees(0, words - 1):
                    self.assertEqual(said(book, row, shape_of(tree)), say_by_hand(book, row, tree))

    def test_words_of_one_sound(self):
        for book, row in some_phrases(20, 15, 6, 1):
            for tree in trees(0, 5):
                self.assertEqual(said(book, row, shape_of(tree)), say_by_hand(book, row, tree))

    def test_one_word(self):
        for book, row in some_phrases(21, 8, 1, 200):
            self.assertEqual(said(book, row, ()), row[0])
        self.assertEqual(said(Book(1, 1, 1, {}), ((0,),), ()), (0,))

    def test_forty_words(self):
        for at, tree in enumerate(long_trees(10, 22)):
            for book, row in some_phrases(23 + at, 3, 40, 6):
                self.assertEqual(said(book, row, shape_of(tree)), say_by_hand(book, row, tree))

    def test_forty_words_joined_from_one_side(self):
        words = ((0,), (2,)) * 20
        self.assertEqual(said(PUSH, words, left_comb(40)), (1,) * 39 + (0,))
        self.assertEqual(said(PUSH, words, right_comb(40))[:4], (1, 0, 2, 0))

    def test_the_longest_words(self):
        book = from_rules(8, 1, 1, ((((7,),), ((7,),), (0,), (1,)),))
        words = ((7,) * 200,) * 40
        expected = (7,) * 199 + (0,) + ((1,) + (7,) * 198 + (0,)) * 38 + (1,) + (7,) * 199
        for shape in (left_comb(40), right_comb(40), zigzag(40)):
            self.assertEqual(said(book, words, shape), expected)

    def test_a_phrase_shorter_than_what_the_book_looks_at(self):
        book = Book(2, 4, 4, {((0,), (0, 0)): ((1,), (1, 0)), ((1, 1, 0), (0, 0)): ((0, 0, 0), (0, 1))})
        self.assertEqual(said(book, ((0,), (0, 0)), (0,)), (1, 1, 0))
        self.assertEqual(said(book, ((0, 0), (0,)), (0,)), (0, 0, 0))
        self.assertEqual(said(book, ((0,), (0, 0), (0, 0)), (1, 0)), (0, 0, 0, 0, 1))

    def test_a_book_that_changes_nothing(self):
        words = ((0, 1), (2, 3), (4,))
        self.assertEqual(said(Book(8, 4, 4, {}), words, (1, 0)), (0, 1, 2, 3, 4))

    def test_what_is_said_may_be_a_word_again(self):
        row = said(PUSH, ((0,), (2,)), (0,))
        self.assertEqual(said(PUSH, (row, (2,)), (0,)), said(PUSH, ((0,), (2,), (2,)), (1, 0)))


class Changes(unittest.TestCase):
    def test_by_hand(self):
        words = ((0, 2), (2,), (0, 0))
        self.assertEqual(changes(PUSH, words, (0, 1)), [(1, 2, 2, 1), (1, 3, 0, 2), (0, 1, 2, 1), (0, 2, 1, 2)])
        self.assertEqual(changes(PUSH, words, (1, 0)), [(0, 1, 2, 1), (1, 2, 2, 1), (1, 3, 0, 2)])

    def test_all_trees_of_a_few_words(self):
        for words in range(1, 6):
            for book, row in some_phrases(30 + words, 8, words, 4):
                for tree in trees(0, words - 1):
                    self.assertEqual(changes(book, row, shape_of(tree)), changes_by_hand(book, row, tree))

    def test_the_row_can_be_done_again(self):
        for at, tree in enumerate(long_trees(6, 40)):
            for book, row in some_phrases(41 + at, 3, 40, 5):
                sounds = [sound for word in row for sound in word]
                found = changes(book, row, shape_of(tree))
                for _, place, old, new in found:
                    self.assertEqual(sounds[place], old)
                    self.assertNotEqual(old, new)
                    sounds[place] = new
                self.assertEqual(tuple(sounds), said(book, row, shape_of(tree)))

    def test_the_order_of_the_joinings(self):
        for tree in long_trees(6, 50):
            book, row = some_phrases(51, 1, 40, 3)[0]
            order = [seam for seam, _, _ in joinings_by_hand(tree)]
            found = changes(book, row, shape_of(tree))
            keys = [(order.index(seam), place) for seam, place, _, _ in found]
            self.assertEqual(keys, sorted(set(keys)))

    def test_none(self):
        self.assertEqual(changes(PUSH, ((0, 1),), ()), [])
        self.assertEqual(changes(Book(2, 4, 4, {}), ((0, 1), (1,), (0,)), (0, 1)), [])

    def test_a_list_is_new(self):
        words = ((0,), (2,))
        found = changes(PUSH, words, (0,))
        found.append(None)
        self.assertEqual(changes(PUSH, words, (0,)), [(0, 0, 0, 1), (0, 1, 2, 0)])
        changes(PUSH, ((0,),), ()).append(1)
        self.assertEqual(changes(PUSH, ((0,),), ()), [])


class LeftAlone(unittest.TestCase):
    def by_hand(self, book, words, tree):
        starts = [sum(len(word) for word in words[:at]) for at in range(len(words) + 1)]
        looked = set()
        for seam, first, last in joinings_by_hand(tree):
            place = starts[seam + 1]
            looked.update(range(max(starts[first], place - book.ahead()), place))
            looked.update(range(place, min(starts[last + 1], place + book.behind())))
        return tuple(sorted(set(range(starts[-1])) - looked))

    def test_by_hand(self):
        self.assertEqual(left_alone(Book(1, 1, 1, {}), ((0, 0, 0), (0,), (0, 0)), (0, 1)), (0, 1, 5))
        self.assertEqual(left_alone(Book(1, 2, 3, {}), ((0,) * 5, (0,) * 6), (0,)), (0, 1, 2, 8, 9, 10))
        self.assertEqual(left_alone(Book(1, 4, 4, {}), ((0,) * 4, (0,) * 4), (0,)), ())

    def test_all_trees_of_a_few_words(self):
        for words in range(1, 6):
            for book, row in some_phrases(60 + words, 8, words, 9):
                for tree in trees(0, words - 1):
                    found = left_alone(book, row, shape_of(tree))
                    self.assertEqual(found, self.by_hand(book, row, tree))

    def test_forty_words(self):
        for at, tree in enumerate(long_trees(6, 70)):
            book, row = some_phrases(71 + at, 1, 40, 12)[0]
            self.assertEqual(left_alone(book, row, shape_of(tree)), self.by_hand(book, row, tree))

    def test_one_word(self):
        self.assertEqual(left_alone(PUSH, ((0, 1, 2),), ()), (0, 1, 2))

    def test_nothing_changes_there(self):
        for book, row in some_phrases(80, 10, 6, 12):
            for tree in trees(0, 5)[::5]:
                alone = left_alone(book, row, shape_of(tree))
                sounds = [sound for word in row for sound in word]
                new = said(book, row, shape_of(tree))
                self.assertEqual([sounds[place] for place in alone], [new[place] for place in alone])


class Met(unittest.TestCase):
    def test_by_hand(self):
        self.assertEqual(met(PUSH, (0, 2), (0, 0)), (0, 1, 2, 0))
        self.assertEqual(met(PUSH, (2,), (0,)), (1, 2))

    def test_rows_of_all_lengths(self):
        chance = random.Random(90)
        for book, _ in some_phrases(91, 12, 1, 1):
            for _ in range(40):
                one = random_row(chance, book.sounds(), chance.randint(1, 7))
                other = random_row(chance, book.sounds(), chance.randint(1, 7))
                self.assertEqual(met(book, one, other), meet_by_hand(book, one, other))

    def test_is_what_is_said_of_two_words(self):
        for book, row in some_phrases(92, 10, 2, 6):
            self.assertEqual(met(book, row[0], row[1]), said(book, row, (0,)))

    def test_the_longest_rows(self):
        self.assertEqual(met(PUSH, (2,) * 4000, (0,) * 4000), (2,) * 3999 + (1, 2) + (0,) * 3999)

    def test_no_row(self):
        for thing in no_rows(3):
            self.assertIs(error_kind(met, PUSH, thing, (0,)), NoRow, thing)
            self.assertIs(error_kind(met, PUSH, (0,), thing), NoRow, thing)
            self.assertIs(error_kind(met, PUSH, thing, thing), NoRow, thing)


class Refused(unittest.TestCase):
    def test_no_words(self):
        for function in (said, changes, left_alone):
            for thing in no_words(3):
                self.assertIs(error_kind(function, PUSH, thing, (0,)), NoWords, thing)
                self.assertIs(error_kind(function, PUSH, thing, ()), NoWords, thing)
                self.assertIs(error_kind(function, PUSH, thing, None), NoWords, thing)

    def test_no_shape(self):
        words = ((0,), (1, 2), (0,))
        for function in (said, changes, left_alone):
            for thing in no_shapes() + [(), (0,), (1, 0, 1), (0, 1, 2)]:
                self.assertIs(error_kind(function, PUSH, words, thing), NoShape, thing)
            for thing in no_shapes() + [(0,), (0, 1)]:
                self.assertIs(error_kind(function, PUSH, ((0,),), thing), NoShape, thing)

    def test_sounds_of_the_book_alone(self):
        for sounds in range(1, 9):
            book = Book(sounds, 1, 1, {})
            self.assertEqual(said(book, ((sounds - 1,), (0,)), (0,)), (sounds - 1, 0))
            self.assertIs(error_kind(said, book, ((sounds,), (0,)), (0,)), NoWords)
            self.assertEqual(met(book, (sounds - 1,), (0,)), (sounds - 1, 0))
            self.assertIs(error_kind(met, book, (sounds,), (0,)), NoRow)

    def test_as_many_and_as_long_as_may_be(self):
        book = Book(1, 1, 1, {})
        self.assertEqual(said(book, ((0,) * 200,) * 40, zigzag(40)), (0,) * 8000)
        self.assertEqual(left_alone(book, ((0,) * 200,), ()), tuple(range(200)))
        self.assertIs(error_kind(said, book, ((0,),) * 41, zigzag(41)), NoWords)


if __name__ == "__main__":
    unittest.main()
