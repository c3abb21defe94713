"""[20]: a live phrase."""

import random
import unittest

from heardseams.books import Book
from heardseams.errors import NoShape, NoSide, NoSpot, NoStep, NothingLeft, NoWords, TooMany
from heardseams.live import Live
from heardseams.saying import said
from heardseams.shapes import is_shape, regroupings
from tests.helper import (
    error_kind, left_comb, long_trees, meet_by_hand, no_integers, no_shapes, no_words, odd_things, raised,
    random_row, random_tree, right_comb, shape_of, some_phrases, trees, zigzag,
)

ONES = Book(3, 1, 1, {((0,), (0,)): ((1,), (0,))})
WORDS = ((0,), (0,), (0,))


class Word:
    def __init__(self, row):
        self.row = row


class Model:
    """A live phrase as nested pairs of words, each pair being a list [part ahead, part behind] of its own."""

    def __init__(self, book, words, tree):
        self.book = book
        self.top = self.grown([Word(row) for row in words], tree)
        self.looked = 0

    def grown(self, words, tree):
        if isinstance(tree, int):
            return words[tree]
        return [self.grown(words, tree[0]), self.grown(words, tree[1])]

    def leaves(self, part=None):
        part = self.top if part is None else part
        if isinstance(part, Word):
            return [part]
        return self.leaves(part[0]) + self.leaves(part[1])

    def say(self, part):
        if isinstance(part, Word):
            return part.row
        return meet_by_hand(self.book, self.say(part[0]), self.say(part[1]))

    def inner(self, part=None, depth=0):
        """A list for each seam of (its pair, its depth)."""
        part = self.top if part is None else part
        if isinstance(part, Word):
            return []
        return self.inner(part[0], depth + 1) + [(part, depth)] + self.inner(part[1], depth + 1)

    def rows(self):
        """What is said for each pair that is there now, by the pair itself."""
        return [(pair, self.say(pair)) for pair, _ in self.inner()]

    def count(self, before):
        self.looked = 0
        for pair, row in self.rows():
            old = [said_row for other, said_row in before if other is pair]
            if old != [row]:
                self.looked += 1

    def put_in_place(self, part, new):
        """Puts the new part in the place of this one."""
        if self.top is part:
            self.top = new
        for pair, _ in self.inner():
            for side in (0, 1):
                if pair[side] is part and pair is not new:
                    pair[side] = new

    def exchange(self, at, row):
        before = self.rows()
        self.leaves()[at].row = row
        self.count(before)

    def regroup(self, one, other):
        before = self.rows()
        pairs = [pair for pair, _ in self.inner()]
        over, under = pairs[one], pairs[other]
        self.put_in_place(over, under)
        if one > other:
            a, b, c = under[0], under[1], over[1]
            under[:], over[:] = [a, over], [b, c]
        else:
            a, b, c = over[0], under[0], under[1]
            under[:], over[:] = [over, c], [a, b]
        self.count(before)

    def put(self, at, row, side):
        before = self.rows()
        word = self.leaves()[at]
        new = [Word(row), word] if side == "left" else [word, Word(row)]
        self.put_in_place(word, new)
        self.count(before)

    def take(self, at):
        before = self.rows()
        word = self.leaves()[at]
        for pair, _ in self.inner():
            for side in (0, 1):
                if pair[side] is word:
                    self.put_in_place(pair, pair[1 - side])
        self.count(before)

    def state(self):
        return (
            tuple(word.row for word in self.leaves()), tuple(depth for _, depth in self.inner()),
            self.say(self.top), self.looked,
        )


def state_of(live):
    return live.words(), live.shape(), live.said(), live.looked()


def some_change(chance, live, sounds):
    """A method of live and of the model, and arguments for it."""
    many = len(live.words())
    kinds = ["exchange", "put", "regroup", "take"]
    kind = chance.choice(kinds)
    at = chance.randrange(many)
    row = random_row(chance, sounds, chance.randint(1, 3))
    if kind == "regroup" and many > 2:
        return kind, chance.choice(regroupings(live.shape()))
    if kind == "take" and many > 1:
        return kind, (at,)
    if kind == "put" and many < 40:
        return kind, (at, row, chance.choice(("left", "right")))
    return "exchange", (at, chance.choice((row, live.words()[at])))


class Made(unittest.TestCase):
    def test_the_phrase_as_it_is(self):
        live = Live(ONES, WORDS, (1, 0))
        self.assertEqual(state_of(live), (WORDS, (1, 0), (1, 1, 0), 0))
        live = Live(ONES, ((0, 2),), ())
        self.assertEqual(state_of(live), (((0, 2),), (), (0, 2), 0))

    def test_refused(self):
        for thing in no_words(3):
            for shape in ((), (0,), None):
                self.assertIs(error_kind(Live, ONES, thing, shape), NoWords, thing)
        for thing in no_shapes() + [(), (0,), (1, 0, 1)]:
            self.assertIs(error_kind(Live, ONES, WORDS, thing), NoShape, thing)

    def test_forty_words(self):
        words = ((0,),) * 40
        for shape in (left_comb(40), right_comb(40), zigzag(40)):
            self.assertEqual(Live(ONES, words, shape).said(), said(ONES, words, shape))


class Changes(unittest.TestCase):
    def test_exchange(self):
        live = Live(ONES, WORDS, (1, 0))
        self.assertIsNone(live.exchange(1, (2, 0)))
        self.assertEqual(state_of(live), (((0,), (2, 0), (0,)), (1, 0), (0, 2, 1, 0), 2))
        live.exchange(2, (2,))
        self.assertEqual(state_of(live), (((0,), (2, 0), (2,)), (1, 0), (0, 2, 0, 2), 1))

    def test_exchange_for_the_same_word(self):
        live = Live(ONES, WORDS, (1, 0))
        self.assertIsNone(live.exchange(1, (0,)))
        self.assertEqual(live.looked(), 0)
        self.assertIs(live.back(), True)
        self.assertIs(live.back(), False)

    def test_exchange_that_cannot_be_heard(self):
        # Behind the first joining it is 1 all the same.
        live = Live(ONES, WORDS, (1, 0))
        live.exchange(0, (1,))
        self.assertEqual(state_of(live), (((1,), (0,), (0,)), (1, 0), (1, 1, 0), 0))
        live = Live(ONES, WORDS, (0, 1))
        live.exchange(1, (1,))
        self.assertEqual(state_of(live), (((0,), (1,), (0,)), (0, 1), (0, 1, 0), 0))
        live.exchange(0, (1,))
        self.assertEqual(live.looked(), 1)

    def test_exchange_that_can_be_heard_within_alone(self):
        book = Book(3, 1, 2, {((0,), (0, 0)): ((0,), (2, 2)), ((0,), (1, 0)): ((0,), (2, 2))})
        live = Live(book, WORDS, (0, 1))
        live.exchange(1, (1,))
        self.assertEqual(state_of(live), (((0,), (1,), (0,)), (0, 1), (0, 2, 2), 1))

    def test_regroup(self):
        live = Live(ONES, WORDS + ((2,),), (1, 2, 0))
        self.assertIsNone(live.regroup(2, 0))
        self.assertEqual(state_of(live), (WORDS + ((2,),), (0, 2, 1), (0, 1, 0, 2), 2))
        live.regroup(2, 1)
        self.assertEqual(live.shape(), (0, 1, 2))
        self.assertEqual(live.looked(), 2)

    def test_regroup_is_heard_further_out(self):
        live = Live(ONES, WORDS + ((2,),), (2, 1, 0))
        live.regroup(1, 0)
        self.assertEqual(live.shape(), (1, 2, 0))
        self.assertEqual(live.looked(), 3)
        live = Live(ONES, ((2,), (2,), (2,), (2,)), (2, 1, 0))
        live.regroup(1, 0)
        self.assertEqual(live.looked(), 2)

    def test_put(self):
        live = Live(ONES, WORDS, (1, 0))
        self.assertIsNone(live.put(1, (2,), "left"))
        self.assertEqual(state_of(live), (((0,), (2,), (0,), (0,)), (1, 2, 0), (0, 2, 1, 0), 3))
        live.put(3, (2, 2), "right")
        self.assertEqual(live.words(), ((0,), (2,), (0,), (0,), (2, 2)))
        self.assertEqual(live.shape(), (1, 2, 0, 1))
        self.assertEqual(live.looked(), 2)

    def test_put_beside_the_only_word(self):
        for side, words in (("left", ((1,), (0,))), ("right", ((0,), (1,)))):
            live = Live(ONES, ((0,),), ())
            live.put(0, (1,), side)
            self.assertEqual(state_of(live), (words, (0,), words[0] + words[1], 1))

    def test_take(self):
        live = Live(ONES, ((0,), (2,), (0,), (0,)), (1, 2, 0))
        self.assertIsNone(live.take(1))
        self.assertEqual(state_of(live), (WORDS, (1, 0), (1, 1, 0), 2))
        live.take(2)
        self.assertEqual(state_of(live), (((0,), (0,)), (0,), (1, 0), 0))
        live.take(0)
        self.assertEqual(state_of(live), (((0,),), (), (0,), 0))

    def test_take_what_a_phrase_was_joined_to(self):
        live = Live(ONES, ((2,), (0,), (0,), (0,)), (0, 2, 1))
        live.take(0)
        self.assertEqual(state_of(live), (WORDS, (1, 0), (1, 1, 0), 0))
        live = Live(ONES, ((0,), (0,), (0,), (2,)), (1, 2, 0))
        live.take(3)
        self.assertEqual(live.shape(), (0, 1))
        live.take(0)
        self.assertEqual(live.shape(), (0,))

    def test_against_nested_pairs(self):
        chance = random.Random(1)
        for many in (1, 2, 3, 5, 8):
            for book, words in some_phrases(300 + many, 6, many, 3):
                tree = random_tree(chance, 0, many - 1)
                live, model = Live(book, words, shape_of(tree)), Model(book, words, tree)
                for _ in range(30):
                    kind, given = some_change(chance, live, book.sounds())
                    self.assertIsNone(getattr(live, kind)(*given))
                    getattr(model, kind)(*given)
                    self.assertEqual(state_of(live), model.state())

    def test_each_put_and_take_in_all_shapes_of_five_words(self):
        book, words = some_phrases(310, 1, 5, 2)[0]
        for tree in trees(0, 4):
            for at in range(5):
                for change in (("put", (at, (0, 0), "left")), ("put", (at, (0,), "right")), ("take", (at,))):
                    live, model = Live(book, words, shape_of(tree)), Model(book, words, tree)
                    getattr(live, change[0])(*change[1])
                    getattr(model, change[0])(*change[1])
                    self.assertTrue(is_shape(live.shape()))
                    self.assertEqual(state_of(live), model.state())

    def test_forty_words(self):
        chance = random.Random(2)
        for at, tree in enumerate(long_trees(4, 3)):
            book, words = some_phrases(320 + at, 1, 40, 4)[0]
            live, model = Live(book, words, shape_of(tree)), Model(book, words, tree)
            for _ in range(25):
                kind, given = some_change(chance, live, book.sounds())
                getattr(live, kind)(*given)
                getattr(model, kind)(*given)
                self.assertEqual(state_of(live), model.state())

    def test_up_to_forty_words_and_down_to_one(self):
        live = Live(ONES, ((0,),), ())
        for many in range(1, 40):
            live.put(many - 1, (0,), "left" if many & 1 else "right")
        self.assertEqual(len(live.words()), 40)
        error = raised(live.put, 0, (0,), "left")
        self.assertIs(error.__class__, TooMany)
        self.assertEqual(error.most, 40)
        for many in range(40, 1, -1):
            live.take(many // 2)
        self.assertIs(error_kind(live.take, 0), NothingLeft)
        self.assertEqual(live.words(), ((0,),))

    def test_what_is_put_in_can_be_taken_out(self):
        chance = random.Random(4)
        for book, words in some_phrases(330, 10, 6, 2):
            shape = shape_of(random_tree(chance, 0, 5))
            for side, more in (("left", 0), ("right", 1)):
                live = Live(book, words, shape)
                at = chance.randrange(6)
                live.put(at, (0,), side)
                live.take(at + more)
                self.assertEqual(state_of(live)[:3], (words, shape, said(book, words, shape)))


class Back(unittest.TestCase):
    def test_all_changes_taken_back_one_by_one(self):
        chance = random.Random(5)
        for book, words in some_phrases(340, 12, 4, 2):
            live = Live(book, words, shape_of(random_tree(chance, 0, 3)))
            states = [state_of(live)]
            for _ in range(60):
                if chance.random() < 0.35:
                    self.assertIs(live.back(), len(states) > 1)
                    states = states[:-1] or states
                else:
                    kind, given = some_change(chance, live, book.sounds())
                    getattr(live, kind)(*given)
                    states.append(state_of(live))
                self.assertEqual(state_of(live), states[-1])
            while len(states) > 1:
                states.pop()
                self.assertIs(live.back(), True)
                self.assertEqual(state_of(live), states[-1])
            self.assertIs(live.back(), False)
            self.assertIs(live.back(), False)
            self.assertEqual(state_of(live), states[0])
            live.exchange(0, (0, 0))
            self.assertIs(live.back(), True)
            self.assertEqual(state_of(live), states[0])

    def test_what_was_looked_at_is_that_of_the_change_ahead(self):
        live = Live(ONES, WORDS, (1, 0))
        live.put(0, (2,), "left")
        live.exchange(0, (2,))
        self.assertEqual(live.looked(), 0)
        live.back()
        self.assertEqual(live.looked(), 3)
        live.back()
        self.assertEqual(live.looked(), 0)

    def test_an_error_is_no_change(self):
        live = Live(ONES, WORDS, (1, 0))
        live.put(0, (2,), "left")
        kept = state_of(live)
        for method, given in (
            (live.exchange, (9, (0,))), (live.exchange, (0, (3,))), (live.regroup, (0, 2)), (live.put, (4, (0,), "left")),
            (live.put, (0, (), "left")), (live.put, (0, (0,), "up")), (live.take, (-1,)),
        ):
            self.assertIsNotNone(raised(method, *given))
            self.assertEqual(state_of(live), kept)
        self.assertIs(live.back(), True)
        self.assertIs(live.back(), False)

    def test_two_phrases_do_not_know_of_each_other(self):
        one, other = Live(ONES, WORDS, (1, 0)), Live(ONES, WORDS, (1, 0))
        one.take(0)
        self.assertEqual(state_of(other), (WORDS, (1, 0), (1, 1, 0), 0))
        self.assertIs(other.back(), False)


def no_spots(many):
    return no_integers() + [-1, many, many + 1, 10 ** 40, -10 ** 40]


class Refused(unittest.TestCase):
    def setUp(self):
        self.live = Live(ONES, WORDS, (1, 0))
        self.only = Live(ONES, ((0,),), ())
        self.full = Live(ONES, ((0,),) * 40, zigzag(40))
        self.kept = [state_of(live) for live in (self.live, self.only, self.full)]

    def tearDown(self):
        for live, kept in zip((self.live, self.only, self.full), self.kept):
            self.assertEqual(state_of(live), kept)
            self.assertIs(live.back(), False)

    def wrong_words(self):
        return odd_things() + [
            [0], (3,), (0, 3), (-1,), (0, True), (False,), (0,) * 201, ((0,),), ((0,), (0,)), "0", "left",
        ]

    def test_no_spot(self):
        for live in (self.live, self.only, self.full):
            for thing in no_spots(len(live.words())):
                for word in ((0,), None):
                    self.assertIs(error_kind(live.exchange, thing, word), NoSpot, thing)
                    for side in ("left", None):
                        self.assertIs(error_kind(live.put, thing, word, side), NoSpot, thing)
                self.assertIs(error_kind(live.take, thing), NoSpot, thing)

    def test_no_words(self):
        for live in (self.live, self.only, self.full):
            for thing in self.wrong_words():
                self.assertIs(error_kind(live.exchange, 0, thing), NoWords, thing)
                for side in ("left", "right", None):
                    self.assertIs(error_kind(live.put, 0, thing, side), NoWords, thing)

    def test_no_side(self):
        for live in (self.live, self.only, self.full):
            for thing in odd_things() + ["Left", "left ", "l", "up", ("left",), ["right"], b"left"]:
                self.assertIs(error_kind(live.put, 0, (0,), thing), NoSide, thing)

    def test_too_many(self):
        for at in (0, 20, 39):
            for side in ("left", "right"):
                error = raised(self.full.put, at, (0,), side)
                self.assertIs(error.__class__, TooMany)
                self.assertEqual(error.most, 40)

    def test_nothing_left(self):
        self.assertIs(error_kind(self.only.take, 0), NothingLeft)
        self.assertIs(error_kind(self.only.take, 1), NoSpot)

    def test_no_step(self):
        for live in (self.live, self.only, self.full):
            steps = regroupings(live.shape())
            for thing in odd_things():
                self.assertIs(error_kind(live.regroup, thing, 0), NoStep, thing)
                self.assertIs(error_kind(live.regroup, 1, thing), NoStep, thing)
            for one in range(-1, len(live.words()) + 1):
                for other in range(-1, len(live.words()) + 1):
                    if (one, other) not in steps:
                        self.assertIs(error_kind(live.regroup, one, other), NoStep)

    def test_the_longest_word(self):
        live = Live(ONES, WORDS, (1, 0))
        live.exchange(0, (2,) * 200)
        live.put(0, (1,) * 200, "left")
        self.assertEqual(live.said(), (1,) * 200 + (2,) * 200 + (1, 0))


if __name__ == "__main__":
    unittest.main()
