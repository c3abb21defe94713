"""[19]: chains of a word, and words that are doubled."""

import random
import unittest

from heardseams.books import Book, by_function
from heardseams.chains import chain_count, chain_ends, chain_ring, chain_sound, doubled_ends
from heardseams.errors import NoNumber, NoWords
from heardseams.saying import said
from tests.helper import (
    error_kind, full_book, left_comb, meet_by_hand, no_integers, odd_things, raised, random_row, some_book,
)

MOST = 10 ** 30
SILENT = Book(3, 2, 2, {})


def some_chains(seed, many):
    """Books with words of theirs, many of them shorter than what the book looks at."""
    chance = random.Random(seed)
    found = []
    for _ in range(many):
        book = some_book(chance)
        found.append((book, random_row(chance, book.sounds(), chance.choice((1, 1, 1, 2, 2, 3, 4, 5, 9)))))
    return found


def chain_rows_at(book, word, some):
    """A dict from some numbers of words to the rows that are said of their chains."""
    table = book.table()
    found = {}
    row = list(word)
    for times in range(1, max(some) + 1):
        if times > 1:
            cut = max(0, len(row) - book.ahead())
            left, right = tuple(row[cut:]), word[:book.behind()]
            left, right = table.get((left, right), (left, right))
            row[cut:] = left + right + word[book.behind():]
        if times in some:
            found[times] = tuple(row)
    return found


def chains_by_hand(book, word, most):
    """The rows that are said of the chains of 1 to so many words."""
    return list(chain_rows_at(book, word, range(1, most + 1)).values())


def ends_of(book, row):
    return row[:book.behind()], row[max(0, len(row) - book.ahead()):]


def ring_by_hand(book, rows):
    """The first numbers of words from which on the last sounds come round, the rows being enough for that."""
    seen = {}
    for at, row in enumerate(rows):
        if len(row) >= book.ahead():
            last = row[len(row) - book.ahead():]
            if last in seen:
                return seen[last] + 1, at - seen[last]
            seen[last] = at
    return None


def eights(number, many):
    """The number as so many figures with the base 8."""
    return tuple(number // 8 ** (many - 1 - at) % 8 for at in range(many))


def long_ring(states):
    """A book that counts in the last four sounds, the word (0,) adding 1, up to so many and from 0 again.

    A sound that falls out of them is 7, and now and then 5.
    """
    table = {}
    for number in range(states):
        after = eights((number + 1) % states, 4)
        table[eights(number, 4), (0,)] = ((5 if number % 9 == 0 else 7,) + after[:3], after[3:])
    return Book(8, 4, 1, table)


SOME = some_chains(1, 60)


class Ends(unittest.TestCase):
    def test_said_out_word_by_word(self):
        for book, word in SOME:
            for at, row in enumerate(chains_by_hand(book, word, 25)):
                self.assertEqual(chain_ends(book, word, at + 1), ends_of(book, row))

    def test_is_what_is_said_joined_from_the_left(self):
        for book, word in SOME[:20]:
            row = said(book, (word,) * 40, left_comb(40))
            self.assertEqual(chain_ends(book, word, 40), ends_of(book, row))

    def test_one_word(self):
        for word in ((0,), (1, 2), (1, 2, 0), (0, 1) * 100):
            self.assertEqual(chain_ends(SILENT, word, 1), (word[:2], word[-2:]))
        self.assertEqual(chain_ends(Book(8, 4, 3, {}), (1, 2, 3, 4, 5), 1), ((1, 2, 3), (2, 3, 4, 5)))

    def test_shorter_than_the_book_looks(self):
        book = Book(2, 4, 3, {})
        self.assertEqual(chain_ends(book, (1,), 1), ((1,), (1,)))
        self.assertEqual(chain_ends(book, (1,), 2), ((1, 1), (1, 1)))
        self.assertEqual(chain_ends(book, (1,), 3), ((1,) * 3, (1,) * 3))
        self.assertEqual(chain_ends(book, (1,), 4), ((1,) * 3, (1,) * 4))
        self.assertEqual(chain_ends(book, (1,), MOST), ((1,) * 3, (1,) * 4))

    def test_the_first_sounds_hang_on_the_words_behind(self):
        book = Book(2, 3, 3, {((0, 0, 0), (0,)): ((1, 1, 1), (0,))})
        self.assertEqual(chain_ends(book, (0,), 3), ((0, 0, 0), (0, 0, 0)))
        self.assertEqual(chain_ends(book, (0,), 4), ((1, 1, 1), (1, 1, 0)))

    def test_so_many_words_as_have_the_same_last_sounds(self):
        for book, word in SOME:
            rows = chains_by_hand(book, word, 400)
            ring = ring_by_hand(book, rows)
            if ring is not None:
                before, length = ring
                for times in (MOST, MOST - 1, 10 ** 29 + 7, 10 ** 9):
                    less = before + 20 * length
                    less += (times - less) % length
                    row = rows[less - 1] if less <= 400 else chain_rows_at(book, word, (less,))[less]
                    self.assertEqual(chain_ends(book, word, times), ends_of(book, row))

    def test_a_word_of_two_hundred_sounds(self):
        chance = random.Random(2)
        word = random_row(chance, 2, 200)
        book = full_book(chance, 2, 4, 4)
        row = chains_by_hand(book, word, 3)[-1]
        for times in (3, 4, MOST):
            if times < 5:
                row = chains_by_hand(book, word, times)[-1]
                self.assertEqual(chain_ends(book, word, times), ends_of(book, row))
            self.assertEqual(chain_ends(book, word, times)[0], row[:4])


class Ring(unittest.TestCase):
    def test_said_out_word_by_word(self):
        kinds = set()
        for book, word in SOME + some_chains(3, 60):
            expected = ring_by_hand(book, chains_by_hand(book, word, 300))
            if expected is not None:
                self.assertEqual(chain_ring(book, word), expected)
                kinds.add(expected)
        self.assertGreater(len(kinds), 5)

    def test_silent_books(self):
        for ahead in range(1, 5):
            book = Book(2, ahead, 1, {})
            self.assertEqual(chain_ring(book, (0,)), (ahead, 1))
            self.assertEqual(chain_ring(book, (0, 1)), ((ahead + 1) // 2, 1))
            self.assertEqual(chain_ring(book, (0,) * 200), (1, 1))

    def test_two_words_in_turn(self):
        book = Book(2, 1, 1, {((0,), (0,)): ((0,), (1,))})
        self.assertEqual(chain_ring(book, (0,)), (1, 2))
        self.assertEqual(chain_ends(book, (0,), MOST), ((0,), (1,)))
        self.assertEqual(chain_ends(book, (0,), MOST - 1), ((0,), (0,)))

    def test_from_a_word_behind_the_first_one(self):
        book = Book(3, 1, 1, {((0,), (0,)): ((0,), (1,)), ((1,), (0,)): ((1,), (2,)), ((2,), (0,)): ((2,), (1,))})
        self.assertEqual(chain_ring(book, (0,)), (2, 2))

    def test_long_rings(self):
        self.assertEqual(chain_ring(long_ring(4000), (0,)), (4, 4000))
        self.assertEqual(chain_ring(long_ring(3989), (0,)), (4, 3989))

    def test_rings_of_a_book_by_a_function(self):
        for more in (1, 2, 3):
            book = by_function(
                7, 4, 1, lambda left, right: ((6,) + left[1:], ((left[0] + left[1] + more) % 7,)) if left[3:] else (left, right),
            )
            ring = ring_by_hand(book, chains_by_hand(book, (0,), 900))
            self.assertGreater(ring[1], 100)
            self.assertEqual(chain_ring(book, (0,)), ring)

    def test_a_long_way_ahead_of_the_ring(self):
        table = long_ring(4000).table()
        last = eights(3999, 4)
        table[last, (0,)] = ((0,) + last[:3], last[3:])
        book = Book(8, 4, 1, table)
        # The chain of four words is at 0.
        rows = chain_rows_at(book, (0,), (4002, 4003, 4004, 4005))
        self.assertNotEqual(rows[4002][-4:], last)
        self.assertEqual([rows[times][-4:] for times in (4003, 4004, 4005)], [last] * 3)
        self.assertEqual(chain_ring(book, (0,)), (4003, 1))
        self.assertEqual(chain_ends(book, (0,), MOST)[1], last)


class Sound(unittest.TestCase):
    def test_every_place_of_chains_said_out(self):
        for book, word in SOME:
            for times, row in enumerate(chains_by_hand(book, word, 14), start=1):
                self.assertEqual(tuple(chain_sound(book, word, times, place) for place in range(len(row))), row)

    def test_the_first_and_the_last_place(self):
        for book, word in SOME:
            for times in (1, 2, 10 ** 12, MOST):
                first, last = chain_ends(book, word, times)
                self.assertEqual(chain_sound(book, word, times, 0), first[0])
                many = times * len(word)
                for at in range(len(last)):
                    self.assertEqual(chain_sound(book, word, times, many - len(last) + at), last[at])

    def test_places_in_the_midst_of_long_chains(self):
        for book, word in SOME:
            before, length = chain_ring(book, word)
            rows = chains_by_hand(book, word, before + 2 * length + 8)
            for far in (0, 1, 10 ** 20, 10 ** 29):
                for at in range(length * len(word)):
                    place = (before + far * length) * len(word) + at
                    expected = rows[-1][before * len(word) + at]
                    self.assertEqual(chain_sound(book, word, MOST, place), expected)

    def test_silent_books(self):
        word = (0, 1, 2, 1, 1)
        for place in (0, 1, 4, 5, 10 ** 15 + 2, 5 * MOST - 1):
            self.assertEqual(chain_sound(SILENT, word, MOST, place), word[place % 5])

    def test_places_around_the_end_of_a_long_ring(self):
        book = long_ring(4000)
        row = chain_rows_at(book, (0,), (8200,))[8200]
        for place in list(range(12)) + list(range(3990, 4012)) + list(range(7990, 8012)) + [8195, 8198, 8199]:
            self.assertEqual(chain_sound(book, (0,), 8200, place), row[place])
        self.assertEqual(chain_sound(book, (0,), MOST, 4000 * 10 ** 20 + 3991), row[3991])

    def test_no_number(self):
        for times, word in ((1, (0,)), (3, (0, 1)), (MOST, (1, 2, 0))):
            for thing in no_integers() + [-1, times * len(word), times * len(word) + 1, 10 ** 40, -10 ** 40]:
                self.assertIs(error_kind(chain_sound, SILENT, word, times, thing), NoNumber, thing)


class Count(unittest.TestCase):
    def test_chains_said_out(self):
        for book, word in SOME:
            for times, row in enumerate(chains_by_hand(book, word, 30), start=1):
                for sound in range(book.sounds()):
                    self.assertEqual(chain_count(book, word, times, sound), row.count(sound))

    def test_ring_by_ring(self):
        for book, word in SOME:
            before, length = chain_ring(book, word)
            rows = chains_by_hand(book, word, before + 4 * length + 10)
            for more in (0, 1, length - 1):
                start = before + more + 6
                for sound in range(book.sounds()):
                    one = rows[start - 1].count(sound)
                    two = rows[start + length - 1].count(sound)
                    rings = (MOST - start) // length
                    times = start + rings * length
                    self.assertEqual(chain_count(book, word, times, sound), one + rings * (two - one))

    def test_all_sounds_together(self):
        for book, word in SOME:
            for times in (1, 7, 10 ** 9, MOST):
                found = [chain_count(book, word, times, sound) for sound in range(book.sounds())]
                self.assertEqual(sum(found), times * len(word))

    def test_a_long_ring(self):
        book = long_ring(3989)
        some = (1, 3, 4, 5, 3988, 3992, 3993, 3994, 7981, 7982, 7983, 8100)
        rows = chain_rows_at(book, (0,), some)
        for times in some:
            for sound in (0, 3, 5, 7):
                self.assertEqual(chain_count(book, (0,), times, sound), rows[times].count(sound))

    def test_silent_books(self):
        self.assertEqual(chain_count(SILENT, (0, 1, 0), MOST, 0), 2 * MOST)
        self.assertEqual(chain_count(SILENT, (0, 1, 0), MOST, 2), 0)

    def test_no_number(self):
        for thing in no_integers() + [-1, 3, 8, 10 ** 40, -10 ** 40]:
            self.assertIs(error_kind(chain_count, SILENT, (0,), 5, thing), NoNumber, thing)


class Doubled(unittest.TestCase):
    def test_said_out(self):
        for book, word in SOME + some_chains(4, 40):
            row = word
            for times in range(9):
                self.assertEqual(doubled_ends(book, word, times), ends_of(book, row))
                row = meet_by_hand(book, row, row)
            for times in (10, 10 ** 9, MOST):
                self.assertEqual(doubled_ends(book, word, times), ends_of(book, row))

    def test_no_doubling(self):
        self.assertEqual(doubled_ends(SILENT, (0,), 0), ((0,), (0,)))
        self.assertEqual(doubled_ends(SILENT, (0, 1, 2), 0), ((0, 1), (1, 2)))
        self.assertEqual(doubled_ends(SILENT, (0, 1) * 100, 0), ((0, 1), (0, 1)))

    def test_a_word_of_one_sound(self):
        book = Book(2, 4, 4, {})
        self.assertEqual(
            [doubled_ends(book, (1,), times) for times in (0, 1, 2, 3, MOST)],
            [((1,) * many, (1,) * many) for many in (1, 2, 4, 4, 4)],
        )

    def test_sounds_that_change_until_the_row_is_long(self):
        book = Book(2, 2, 2, {((0,), (0,)): ((1,), (0,)), ((1, 0), (1, 0)): ((0, 0), (0, 1))})
        self.assertEqual(doubled_ends(book, (0,), 1), ((1, 0), (1, 0)))
        self.assertEqual(doubled_ends(book, (0,), 2), ((0, 0), (0, 1)))
        self.assertEqual(doubled_ends(book, (0,), 3), ((0, 0), (0, 1)))


class Refused(unittest.TestCase):
    CALLS = (
        (chain_ends, (5,)), (chain_sound, (5, 0)), (chain_count, (5, 0)), (chain_ring, ()), (doubled_ends, (5,)),
    )

    def test_no_words(self):
        wrong = odd_things() + [
            [0], (3,), (0, 3), (-1,), (0, -1), (0, True), (False,), (0, None), (0,) * 201, ((0,),), ((0,), (1,)), "01",
        ]
        for function, more in self.CALLS:
            for thing in wrong:
                self.assertIs(error_kind(function, SILENT, thing, *more), NoWords, thing)
                self.assertIs(error_kind(function, SILENT, thing, *[None] * len(more)), NoWords, thing)

    def test_no_number_for_the_times(self):
        for function, more in self.CALLS:
            if function is not chain_ring:
                for thing in no_integers() + [-1, MOST + 1, 10 ** 40, -10 ** 40]:
                    for rest in (more[1:], (None,) * len(more[1:])):
                        self.assertIs(error_kind(function, SILENT, (0,), thing, *rest), NoNumber, thing)
                self.assertIsNone(raised(function, SILENT, (0,), 1, *more[1:]))
                self.assertIsNone(raised(function, SILENT, (0,), MOST, *more[1:]))
                expected = None.__class__ if function is doubled_ends else NoNumber
                self.assertIs(error_kind(function, SILENT, (0,), 0, *more[1:]), expected)

    def test_sounds_of_the_book_alone(self):
        for sounds in range(1, 9):
            book = Book(sounds, 1, 1, {})
            self.assertEqual(chain_ends(book, (sounds - 1,), 3), ((sounds - 1,), (sounds - 1,)))
            self.assertIs(error_kind(chain_ends, book, (sounds,), 3), NoWords)
            self.assertEqual(chain_count(book, (0,), 3, sounds - 1), 3 if sounds == 1 else 0)
            self.assertIs(error_kind(chain_count, book, (0,), 3, sounds), NoNumber)


if __name__ == "__main__":
    unittest.main()
