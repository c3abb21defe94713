"""[1] to [5]: what the document promises over the whole program."""

import copy
import random
import unittest

from heardseams.books import Book, by_function, from_rules, mirrored, one_behind_another
from heardseams.desk import Desk
from heardseams.errors import SeamError
from heardseams.forks import shape_of as shape_by_table
from heardseams.intime import orders_of, said_in_time
from heardseams.live import Live
from heardseams.numbers import number, road, road_fault
from heardseams.partings import parting, parts_them
from heardseams.saying import met, said
from heardseams.shapes import all_shapes, regrouped
from heardseams.shelves import number_of_book, numbers_of
from heardseams.tellingback import heard_as, sayings
from heardseams.texts import book_text, phrase_text, read_book, read_phrase, read_shape, shape_text
from tests.helper import (
    long_trees, nested, odd_things, raised, random_row, random_tree, say_by_hand, shape_of, some_phrases,
)
from tests.test_interface import BOOK, CALLS, LIVING, REFUSALS, THREE, WORDS, function_of


def spoil(thing):
    """Changes all lists and dicts within what was returned, the innermost ones first."""
    if isinstance(thing, (list, tuple)):
        for part in thing:
            spoil(part)
    if isinstance(thing, dict):
        for key in list(thing):
            spoil(thing[key])
        thing.clear()
        thing["spoiled"] = True
    if isinstance(thing, list):
        thing.clear()
        thing.append("spoiled")
    if isinstance(thing, Book):
        spoil(thing.table())


def plain(thing):
    """What was returned, with what can be seen of the objects within."""
    if isinstance(thing, Live):
        return "live", thing.words(), thing.shape(), thing.said(), thing.looked()
    if isinstance(thing, Desk):
        return "desk", thing.undoable()
    return copy.deepcopy(thing)


class Returned(unittest.TestCase):
    def test_what_is_returned_is_changed_and_the_same_asked_again(self):
        for module, name, _, given in CALLS:
            function = function_of(module, name)
            handed = copy.deepcopy(given)
            first = function(*given)
            kept = plain(first)
            spoil(first)
            self.assertEqual(plain(function(*given)), kept, name)
            if name not in ("by_function",):
                self.assertEqual(given, handed, name)

    def test_methods_too(self):
        book = Book(2, 1, 1, {((0,), (0,)): ((1,), (0,))})
        spoil(book.table())
        self.assertEqual(book.table(), {((0,), (0,)): ((1,), (0,))})
        self.assertEqual(book, Book(2, 1, 1, {((0,), (0,)): ((1,), (0,))}))

    def test_lists_within_are_not_those_that_were_handed_in(self):
        shapes = [(0, 1), (1, 0), (0, 1)]
        for function in (function_of("forks", "groups"), function_of("forks", "same_tongue")):
            spoil(function(THREE, shapes, 3))
        spoil(numbers_of(THREE, shapes))
        self.assertEqual(shapes, [(0, 1), (1, 0), (0, 1)])

    def test_equal_calls_give_equal_results(self):
        for module, name, _, given in CALLS:
            if name not in LIVING:
                results = [function_of(module, name)(*given) for _ in range(3)]
                self.assertEqual(results, results[:1] * 3)


class HandedIn(unittest.TestCase):
    def test_what_is_done_later_changes_nothing(self):
        table = {((0,), (0,)): ((1,), (0,))}
        book = Book(2, 1, 1, table)
        live, desk = Live(book, ((0,), (0,)), (0,)), Desk(book)
        desk.tell("phrase (0 0)")
        other = mirrored(book)
        twice = one_behind_another(book, book)
        table.clear()
        table[(1,), (1,)] = ((0,), (0,))
        self.assertEqual(book.table(), {((0,), (0,)): ((1,), (0,))})
        self.assertEqual(other.table(), {((0,), (0,)): ((0,), (1,))})
        self.assertEqual(twice, book)
        self.assertEqual((live.said(), desk.tell("say")), ((1, 0), "10"))

    def test_a_list_of_shapes_and_a_road(self):
        shapes = [(0, 1), (1, 0)]
        found = numbers_of(THREE, shapes)
        shapes.clear()
        self.assertEqual(found, [[None, 2], [2, None]])
        steps = [(0, 1)]
        self.assertIsNone(road_fault(THREE, (0, 1), (1, 0), 2, steps))
        self.assertEqual(steps, [(0, 1)])

    def test_a_table_of_standings(self):
        table = {(0, 1): "over"}
        found = shape_by_table(THREE, 3, table)
        table.clear()
        self.assertEqual(found, (0, 1))

    def test_wrong_things_are_not_changed_either(self):
        for module, name, _, given in CALLS:
            function = function_of(module, name)
            for at, kind in enumerate(REFUSALS.get(name, ())):
                for thing in odd_things() if kind else ():
                    shown = repr(thing)
                    raised(function, *given[:at], thing, *given[at + 1:])
                    self.assertEqual(repr(thing), shown)


class Errors(unittest.TestCase):
    def test_all_errors_are_those_of_the_package(self):
        things = odd_things() + [nested(list, 30), nested(tuple, 30)]
        for module, name, _, given in CALLS:
            for at, kind in enumerate(REFUSALS.get(name, ())):
                for thing in things if kind else ():
                    error = raised(function_of(module, name), *given[:at], thing, *given[at + 1:])
                    self.assertTrue(error is None or isinstance(error, SeamError), (name, at, thing, error))

    def test_objects_of_the_package_are_arguments_too(self):
        things = [BOOK, Live(BOOK, WORDS, (0, 1)), Desk(BOOK), (Desk(BOOK),), [Live(BOOK, WORDS, (0, 1))], {Desk(BOOK): BOOK}]
        for module, name, _, given in CALLS:
            for at, kind in enumerate(REFUSALS.get(name, ())):
                for thing in things if kind else ():
                    error = raised(function_of(module, name), *given[:at], thing, *given[at + 1:])
                    if thing is not BOOK or error is not None:
                        self.assertIs(error.__class__, kind, (name, at))

    def test_things_that_are_judged(self):
        from heardseams.shapes import is_shape
        from heardseams.toldwords import phrase_for
        for thing in odd_things() + [Desk(BOOK), (Live(BOOK, WORDS, (0, 1)),)]:
            self.assertIs(is_shape(thing).__class__, bool)
            self.assertIs(road_fault(THREE, (0, 1), (1, 0), 2, thing).__class__, tuple)
            phrase_for(BOOK, WORDS, thing)
            self.assertIs(BOOK == thing, False)
            self.assertIs(BOOK != thing, True)

    def test_wrong_objects_as_arguments_of_methods(self):
        live, desk = Live(BOOK, WORDS, (0, 1)), Desk(BOOK)
        desk.tell("phrase (0 1)")
        for thing in odd_things() + [live, desk, BOOK]:
            for method, given in (
                (live.exchange, (thing, (0,))), (live.exchange, (0, thing)), (live.regroup, (thing, thing)),
                (live.put, (thing, (0,), "left")), (live.put, (0, thing, "left")), (live.put, (0, (0,), thing)),
                (live.take, (thing,)), (desk.tell, (thing,)),
            ):
                self.assertIsInstance(raised(method, *given), SeamError)
        self.assertEqual((live.words(), live.shape(), live.looked()), (WORDS, (0, 1), 0))
        self.assertEqual((desk.tell("show"), desk.undoable()), ("(0 1)", 1))


class Doors(unittest.TestCase):
    """One phrase that is said by all doors is said the same."""

    def rows_said(self, book, words, tree):
        shape = shape_of(tree)
        yield say_by_hand(book, words, tree)
        yield said(book, words, shape)
        yield self.by_meeting(book, words, tree)
        yield Live(book, words, shape).said()
        yield self.grown(book, words, tree).said()
        desk = Desk(book)
        desk.tell("phrase " + phrase_text(words, shape))
        yield tuple(map(int, desk.tell("say")))
        again, read = read_phrase(desk.tell("show"))
        yield said(read_book(book_text(book)), again, read)
        back = said(mirrored(book), tuple(word[::-1] for word in words[::-1]), shape[::-1])
        yield back[::-1]

    def by_meeting(self, book, words, tree):
        if isinstance(tree, int):
            return words[tree]
        return met(book, self.by_meeting(book, words, tree[0]), self.by_meeting(book, words, tree[1]))

    def grown(self, book, words, tree):
        """A live phrase that begins with one word and is put together word by word."""
        def first(part):
            return part if isinstance(part, int) else first(part[0])

        live = Live(book, (words[0],), ())
        waiting = [(tree, 0)]
        while waiting:
            part, at = waiting.pop(0)
            if isinstance(part, tuple):
                live.put(at, words[first(part[1])], "right")
                waiting = [(other, spot + (spot > at)) for other, spot in waiting]
                waiting += [(part[0], at), (part[1], at + 1)]
        return live

    def check(self, book, words, tree):
        rows = list(self.rows_said(book, words, tree))
        self.assertEqual(rows, rows[:1] * len(rows))
        return rows[0]

    def test_a_few_words(self):
        chance = random.Random(1)
        for many in range(1, 8):
            for book, words in some_phrases(500 + many, 6, many, 4):
                tree = random_tree(chance, 0, many - 1)
                row = self.check(book, words, tree)
                for order in orders_of(shape_of(tree))[:20]:
                    self.assertEqual(said_in_time(book, words, order), row)
                self.assertIn(shape_of(tree), heard_as(book, words, row))
                self.assertIn(row, sayings(book, words))

    def test_forty_words(self):
        for at, tree in enumerate(long_trees(6, 2)):
            for book, words in some_phrases(510 + at, 2, 40, 3):
                self.check(book, words, tree)

    def test_books_with_more_entries_than_a_table_may_have(self):
        chance = random.Random(3)
        book = by_function(6, 4, 1, lambda left, right: (left[1:] + right, left[:1]))
        same = from_rules(6, 4, 1, ())
        self.assertGreater(len(book.table()), 4000)
        for _ in range(5):
            words = tuple(random_row(chance, 6, chance.randint(1, 4)) for _ in range(6))
            shape = chance.choice(all_shapes(6))
            row = said(book, words, shape)
            self.assertEqual(Live(book, words, shape).said(), row)
            self.assertEqual(Live(one_behind_another(same, book), words, shape).said(), row)


class MainFacts(unittest.TestCase):
    def test_the_number_from_two_sides(self):
        chance = random.Random(4)
        for _ in range(60):
            many = chance.randint(2, 7)
            lengths = tuple(chance.randint(1, 3) for _ in range(many))
            one, other = (shape_of(random_tree(chance, 0, many - 1)) for _ in range(2))
            least = number(lengths, one, other)
            if least is None:
                continue
            steps = road(lengths, one, other)
            self.assertIsNone(road_fault(lengths, one, other, least, steps))
            shape = one
            for step in steps:
                shape = regrouped(shape, *step)
            self.assertEqual(shape, other)
            if least <= 7:
                self.assertIs(parts_them(parting(lengths, one, other), lengths, one, other), True)
            self.assertEqual(read_shape(shape_text(lengths, one)), (lengths, one))

    def test_numbers_of_books_that_part_three_words(self):
        book = parting((1, 1, 1), (0, 1), (1, 0))
        self.assertEqual((book.ahead(), book.behind()), (1, 1))
        self.assertIsNotNone(number_of_book(book))


if __name__ == "__main__":
    unittest.main()
