"""[17]: summaries, whether brackets ever matter for told words, who is to blame, phrases for summaries."""

import itertools
import random
import unittest

from heardseams.books import Book
from heardseams.errors import NoList, NoRow, TooMany
from heardseams.saying import said
from heardseams.shapes import all_shapes, is_shape
from heardseams.toldbooks import matters
from heardseams.toldwords import blamed, ever_matters, phrase_for, summaries, summary
from tests.helper import (
    error_kind, full_book, meet_by_hand, no_rows, no_words, odd_things, raised, random_book, random_row, say_by_hand,
    trees,
)

STILL = Book(2, 1, 1, {})
# Lists with just 400 and with 401 summaries.
JUST_400 = (
    Book(3, 3, 3, {
        ((2, 2), (0, 1, 2)): ((0, 0), (1, 2, 2)), ((2,), (0, 2, 1)): ((1,), (2, 0, 0)), ((0, 2), (1, 0)): ((1, 0), (2, 0)),
    }),
    ((1,), (1, 2, 0, 1, 0, 0, 0, 2), (0, 2, 0, 2, 2, 1, 1, 0, 2), (2, 2, 0), (2,), (2, 0, 0)),
)
JUST_401 = (
    Book(4, 2, 3, {
        ((1,), (0, 3, 0)): ((0,), (1, 0, 1)), ((0, 2), (1, 2)): ((1, 1), (0, 2)), ((2,), (3, 2)): ((0,), (2, 1)),
    }),
    (
        (2, 1, 2, 2, 1, 1), (1,), (2,), (2, 2, 2, 2, 0, 3, 0), (0, 3, 3), (3, 2, 0), (3, 2, 3, 2, 2, 3, 3, 3),
        (0, 1, 1, 0, 3, 0, 1, 0), (3, 1, 3, 2), (1, 1),
    ),
)


def summary_by_hand(book, row):
    if len(row) < book.ahead() + book.behind():
        return row, ()
    return row[:book.behind()], row[len(row) - book.ahead():]


def summaries_by_hand(book, words, most=500):
    """The summaries of whole rows that are said, joined until none is new or there are too many; each with such a row."""
    rows = {}
    fresh = [summary_by_hand(book, word) for word in words]
    rows.update(zip(fresh, words))
    while fresh and len(rows) <= most:
        pairs = [(a, b) for a in rows for b in fresh] + [(a, b) for a in fresh for b in rows]
        found = {}
        for one, other in pairs:
            row = meet_by_hand(book, rows[one], rows[other])
            found.setdefault(summary_by_hand(book, row), row)
        fresh = [key for key in found if key not in rows]
        rows.update((key, found[key]) for key in fresh)
    return rows


def with_just(book, words, most):
    """A list: for each number of words up to the most the summaries of phrases of just so many words."""
    levels = [{}, {summary_by_hand(book, word): word for word in words}]
    for many in range(2, most + 1):
        found = {}
        for ahead in range(1, many):
            for one, other in itertools.product(levels[ahead].values(), levels[many - ahead].values()):
                row = meet_by_hand(book, one, other)
                found[summary_by_hand(book, row)] = row
        levels.append(found)
    return levels


def unlike_by_hand(book, x, y, z):
    one = meet_by_hand(book, x, meet_by_hand(book, y, z))
    return one != meet_by_hand(book, meet_by_hand(book, x, y), z)


def some_lists(seed, many):
    """Books with lists of words that have few summaries."""
    chance = random.Random(seed)
    found = []
    while len(found) < many:
        sounds, ahead, behind = chance.choice((1, 2, 3, 8)), chance.randint(1, 3), chance.randint(1, 3)
        if sounds <= 2 and chance.random() < 0.3:
            book = full_book(chance, sounds, ahead, behind)
        else:
            book = random_book(chance, sounds, ahead, behind, chance.choice((1, 2, 4, 8, 30)))
        words = tuple(random_row(chance, sounds, chance.randint(1, 5)) for _ in range(chance.randint(1, 4)))
        if len(summaries_by_hand(book, words, 60)) <= 60:
            found.append((book, words))
    return found


SOME = some_lists(1, 60)

# A phrase is 1, some sounds, and a counter: each word that is joined behind
# it adds 1 to the last two sounds, read as figures, up to 77.
COUNTER = Book(8, 2, 1, {
    ((0,), (0,)): ((1,), (2,)),
    **{
        ((number // 8, number % 8), (0,)): ((number // 8, (number + 1) // 8), ((number + 1) % 8,))
        for number in range(10, 63)
    },
    ((7, 7), (0,)): ((7, 7), (7,)),
})
# The same with three sounds, which counts from 102 to 777.
FAR_COUNTER = Book(8, 3, 1, {
    ((0,), (0,)): ((1,), (2,)),
    ((1, 2), (0,)): ((1, 0), (2,)),
    **{
        ((number // 64, number // 8 % 8, number % 8), (0,)): (
            (number // 64, (number + 1) // 64, (number + 1) // 8 % 8), ((number + 1) % 8,),
        )
        for number in range(66, 511)
    },
})


class Summary(unittest.TestCase):
    def test_shorter_than_the_reach_as_long_and_longer(self):
        book = Book(8, 2, 3, {})
        self.assertEqual(summary(book, (1,)), ((1,), ()))
        self.assertEqual(summary(book, (1, 2, 3, 4)), ((1, 2, 3, 4), ()))
        self.assertEqual(summary(book, (1, 2, 3, 4, 5)), ((1, 2, 3), (4, 5)))
        self.assertEqual(summary(book, (1, 2, 3, 4, 5, 6)), ((1, 2, 3), (5, 6)))
        self.assertEqual(summary(book, (7,) * 4000), ((7, 7, 7), (7, 7)))

    def test_all_sizes(self):
        chance = random.Random(2)
        for ahead, behind in itertools.product(range(1, 5), repeat=2):
            book = random_book(chance, 4, ahead, behind, 20)
            for length in range(1, 12):
                row = random_row(chance, 4, length)
                self.assertEqual(summary(book, row), summary_by_hand(book, row))

    def test_no_row(self):
        for thing in no_rows(2):
            self.assertIs(error_kind(summary, STILL, thing), NoRow, thing)


class Summaries(unittest.TestCase):
    def test_against_rows_that_are_joined(self):
        for book, words in SOME:
            self.assertEqual(summaries(book, words), sorted(summaries_by_hand(book, words)))

    def test_all_phrases_of_a_few_words_said_one_by_one(self):
        for book, words in SOME[:25]:
            found = summaries(book, words)
            seen = set()
            for many in range(1, 5):
                for row in itertools.product(words, repeat=many):
                    for tree in trees(0, many - 1):
                        seen.add(summary_by_hand(book, say_by_hand(book, row, tree)))
            self.assertLessEqual(seen, set(found))
            levels = with_just(book, words, 4)
            self.assertEqual(seen, {key for level in levels for key in level})

    def test_one_word(self):
        self.assertEqual(summaries(STILL, ((0,),)), [((0,), ()), ((0,), (0,))])
        self.assertEqual(summaries(STILL, ((0, 1),)), [((0,), (1,))])
        self.assertEqual(summaries(Book(1, 4, 4, {}), ((0,),)), [
            ((0,) * length, ()) for length in range(1, 4)
        ] + sorted([((0,) * 4, ()), ((0,) * 4, (0,) * 4)] + [((0,) * length, ()) for length in range(5, 8)]))

    def test_the_same_word_twice(self):
        for book, words in SOME[:20]:
            self.assertEqual(summaries(book, words + words[:1]), summaries(book, words))

    def test_twelve_words(self):
        words = tuple((a, b) for a in range(3) for b in range(4))
        self.assertEqual(summaries(Book(8, 1, 1, {}), words), [((a,), (b,)) for a in range(3) for b in range(4)])

    def test_four_hundred(self):
        for book, words in (JUST_400, JUST_401):
            self.assertEqual(len(summaries_by_hand(book, words)), 400 + ((book, words) == JUST_401))
        found = summaries(*JUST_400)
        self.assertEqual(found, sorted(summaries_by_hand(*JUST_400)))
        for function, more in ((summaries, ()), (ever_matters, ()), (blamed, ()), (phrase_for, (found[0],))):
            self.assertIsNone(raised(function, *JUST_400, *more))
            for book, words in (JUST_401, (Book(2, 4, 4, {}), ((0,), (1,)))):
                error = raised(function, book, words, *more)
                self.assertIs(error.__class__, TooMany)
                self.assertEqual(error.most, 400)

    def test_one_word_with_too_many(self):
        for function in (summaries, ever_matters, blamed):
            self.assertIs(error_kind(function, FAR_COUNTER, ((0,),)), TooMany)
            self.assertIsNone(raised(function, FAR_COUNTER, ((1,),)))
        self.assertIs(error_kind(phrase_for, FAR_COUNTER, ((0,),), None), TooMany)


class EverMatters(unittest.TestCase):
    def check(self, book, words):
        """Whether brackets ever matter, what is told of it being checked."""
        rows = summaries_by_hand(book, words)
        found = ever_matters(book, words)
        if found is not None:
            self.assertIs(found.__class__, tuple)
            x, y, z = found
            for part in found:
                self.assertIn(part, rows)
            self.assertEqual(y[1], ())
            self.assertEqual(rows[y], y[0])
            self.assertTrue(unlike_by_hand(book, rows[x], rows[y], rows[z]))
        return found is not None

    def test_against_all_three_summaries(self):
        kinds = set()
        for book, words in SOME:
            rows = summaries_by_hand(book, words)
            threes = itertools.product(rows.values(), repeat=3)
            heard = any(unlike_by_hand(book, *three) for three in threes)
            self.assertIs(self.check(book, words), heard)
            kinds.add(heard)
        self.assertEqual(kinds, {True, False})

    def test_against_all_phrases_of_a_few_words(self):
        never = 0
        for book, words in some_lists(4, 60):
            heard = False
            for many in (3, 4):
                for row in itertools.product(words, repeat=many):
                    heard = heard or len({say_by_hand(book, row, tree) for tree in trees(0, many - 1)}) > 1
            matter = self.check(book, words)
            if heard:
                self.assertTrue(matter)
            if not matter:
                never += 1
                row = tuple(random.Random(5).choice(words) for _ in range(7))
                self.assertEqual(len({said(book, row, shape) for shape in all_shapes(7)}), 1)
        self.assertGreater(never, 5)

    def test_a_book_with_which_brackets_never_matter(self):
        for words in (((0,),), ((0, 1), (1,)), ((0,) * 200,)):
            self.assertIsNone(ever_matters(Book(2, 2, 2, {}), words))

    def test_words_that_never_meet_so(self):
        book = Book(3, 1, 1, {((0,), (0,)): ((1,), (0,))})
        self.assertIsNotNone(matters(book))
        self.assertIsNone(ever_matters(book, ((1,), (2,))))
        self.assertIsNone(ever_matters(book, ((0, 1, 2), (0, 2))))
        self.assertEqual(ever_matters(book, ((0,),))[1], ((0,), ()))
        self.assertIsNotNone(ever_matters(book, ((1,), (2,), (0,))))

    def test_it_matters_only_in_longer_phrases(self):
        book = Book(3, 1, 1, {
            ((0,), (0,)): ((1,), (1,)), ((1,), (0,)): ((1,), (1,)), ((0,), (1,)): ((1,), (1,)),
            ((1,), (1,)): ((1,), (2,)),
        })
        for many, rows in ((2, 1), (3, 1), (4, 2)):
            said_rows = {say_by_hand(book, ((0,),) * many, tree) for tree in trees(0, many - 1)}
            self.assertEqual(len(said_rows), rows)
        self.assertTrue(self.check(book, ((0,),)))

    def test_equal_calls(self):
        for book, words in SOME[:20]:
            self.assertEqual(ever_matters(book, words), ever_matters(book, words))

    def test_four_hundred_summaries(self):
        self.check(*JUST_400)


class Blamed(unittest.TestCase):
    def by_hand(self, book, words):
        if len(words) == 1 or ever_matters(book, words) is None:
            return []
        return [at for at in range(len(words)) if ever_matters(book, words[:at] + words[at + 1:]) is None]

    def test_against_lists_without_one_word(self):
        sizes = set()
        for book, words in SOME + some_lists(6, 60):
            self.assertEqual(blamed(book, words), self.by_hand(book, words))
            sizes.add(len(blamed(book, words)))
        self.assertGreater(len(sizes), 1)

    def test_one_word_is_to_blame(self):
        book = Book(4, 1, 1, {((0,), (0,)): ((1,), (0,))})
        self.assertEqual(blamed(book, ((0,), (2,), (3,))), [0])
        self.assertEqual(blamed(book, ((2,), (3,), (0,), (2, 3))), [2])
        self.assertEqual(blamed(book, ((0,), (0, 2))), [0])

    def test_two_words_each_of_which_is_enough(self):
        book = Book(4, 1, 1, {((0,), (0,)): ((1,), (0,)), ((2,), (2,)): ((3,), (2,))})
        self.assertEqual(blamed(book, ((0,), (2,))), [])
        self.assertEqual(blamed(book, ((0,), (0,))), [])
        self.assertEqual(blamed(book, ((0,), (3,))), [0])

    def test_words_that_are_to_blame_together(self):
        book = Book(4, 1, 1, {((0,), (2,)): ((0,), (1,)), ((1,), (0,)): ((1,), (3,))})
        self.assertEqual(blamed(book, ((0,), (2,))), [0, 1])
        self.assertEqual(blamed(book, ((3,), (0,), (3, 3), (2,))), [1, 3])
        self.assertEqual(blamed(book, ((3,), (0,), (2,), (2,))), [1])
        book = Book(5, 1, 1, {((0,), (1,)): ((0,), (3,)), ((3,), (2,)): ((3,), (4,))})
        self.assertEqual(blamed(book, ((0,), (1,), (2,))), [0, 1, 2])

    def test_one_word_and_none(self):
        book = Book(4, 1, 1, {((0,), (0,)): ((1,), (0,))})
        self.assertIsNotNone(ever_matters(book, ((0,),)))
        self.assertEqual(blamed(book, ((0,),)), [])
        self.assertEqual(blamed(book, ((1,),)), [])
        self.assertEqual(blamed(book, ((1,), (2,), (3,))), [])

    def test_a_list_is_new(self):
        book = Book(4, 1, 1, {((0,), (0,)): ((1,), (0,))})
        found = blamed(book, ((0,), (2,)))
        found.append(1)
        self.assertEqual(blamed(book, ((0,), (2,))), [0])
        blamed(book, ((0,),)).append(1)
        self.assertEqual(blamed(book, ((0,),)), [])


class PhraseFor(unittest.TestCase):
    def check(self, book, words, told):
        """The number of words of the phrase, which is checked."""
        found = phrase_for(book, words, told)
        self.assertIs(found.__class__, tuple)
        row, shape = found
        self.assertIs(row.__class__, tuple)
        self.assertTrue(all(word in words for word in row))
        self.assertTrue(is_shape(shape))
        self.assertEqual(len(shape) + 1, len(row))
        self.assertEqual(summary_by_hand(book, said(book, row, shape)), told)
        return len(row)

    def test_each_of_the_summaries_with_as_few_words_as_can_be(self):
        for book, words in SOME:
            found = summaries(book, words)
            fewest = {told: self.check(book, words, told) for told in found}
            levels = with_just(book, words, max(fewest.values()))
            for told, many in fewest.items():
                self.assertEqual([at for at, level in enumerate(levels) if told in level][0], many)

    def test_four_hundred(self):
        for told in summaries(*JUST_400)[::25]:
            self.check(*JUST_400, told)

    def test_a_word_of_the_list(self):
        self.assertEqual(phrase_for(STILL, ((0, 1), (1,)), ((1,), ())), (((1,),), ()))
        self.assertEqual(phrase_for(STILL, ((0, 1), (1,)), ((0,), (1,))), (((0, 1),), ()))

    def test_what_is_none_of_the_summaries(self):
        wrong = odd_things() + [
            ((1,), ()), ((0,), (1,)), [(0,), (0,)], ((0,), [0]), ([0], ()), ((0,), (0,), ()), ((0,),), ((0, 0), ()),
            ((0,), None), ((False,), ()), ((0,), (False,)), ((False,), (False,)), ("0", ""), ((), ()), ((), (0,)),
            ((0, 0), (0, 0)), ("0", "0"), (0, 0), ((None,), ()), (((0,),), ()), {0: 0}, ((0,), ((),)),
        ]
        for thing in wrong:
            self.assertIsNone(phrase_for(STILL, ((0,),), thing), thing)
        self.assertIsNone(phrase_for(STILL, ((1,),), ((True,), ())))
        self.assertIsNone(phrase_for(STILL, ((1,),), ((True,), (1,))))
        self.assertIsNotNone(phrase_for(STILL, ((1,),), ((1,), (1,))))

    def test_summaries_of_other_phrases(self):
        for book, words in SOME[:30]:
            found = summaries(book, words)
            for other in summaries(book, words + (tuple(range(book.sounds())),)):
                if other not in found:
                    self.assertIsNone(phrase_for(book, words, other))

    def test_forty_words_and_more(self):
        word = ((0,),)
        self.assertLessEqual(len(summaries(COUNTER, word)), 400)
        for number in range(11, 49):
            told = ((1,), (number // 8, number % 8))
            self.assertEqual(self.check(COUNTER, word, told), number - 8)
        for number in range(49, 64):
            error = raised(phrase_for, COUNTER, word, ((1,), (number // 8, number % 8)))
            self.assertIs(error.__class__, TooMany)
            self.assertEqual(error.most, 40)
        self.assertIsNone(phrase_for(COUNTER, word, ((1,), (1, 1))))
        self.assertIsNone(phrase_for(COUNTER, word, None))

    def test_equal_calls(self):
        for book, words in SOME[:20]:
            for told in summaries(book, words):
                self.assertEqual(phrase_for(book, words, told), phrase_for(book, words, told))


class Refused(unittest.TestCase):
    def test_no_list(self):
        for thing in no_words(2) + [((0,),) * 13, ((0,),) * 40]:
            self.assertIs(error_kind(summaries, STILL, thing), NoList, thing)
            self.assertIs(error_kind(ever_matters, STILL, thing), NoList, thing)
            self.assertIs(error_kind(blamed, STILL, thing), NoList, thing)
            for other in (None, ((0,), ()), thing):
                self.assertIs(error_kind(phrase_for, STILL, thing, other), NoList, thing)

    def test_as_many_and_as_long_as_may_be(self):
        words = ((0,) * 200, (1,) * 200) * 6
        for function in (summaries, ever_matters, blamed):
            self.assertIsNone(raised(function, STILL, words))
        self.assertEqual(phrase_for(STILL, words, ((1,), (1,))), (((1,) * 200,), ()))

    def test_lists_are_new(self):
        found = summaries(STILL, ((0,),))
        self.assertIs(found.__class__, list)
        found.clear()
        self.assertEqual(summaries(STILL, ((0,),)), [((0,), ()), ((0,), (0,))])


if __name__ == "__main__":
    unittest.main()
