"""[2], [3], [4], [26]: names, arguments, kinds of values, new lists, unchanged arguments, the order of checks."""

import copy
import inspect
import importlib
import sys
import unittest

from heardseams import errors
from heardseams.books import Book
from heardseams.desk import Desk
from heardseams.errors import (
    NoBallot, NoBook, NoChoices, NoLeaning, NoLengths, NoList, NoNumber, NoOrder, NoPart, NoRow, NoSeam, NoShape,
    NoShapes, NoStep, NoTable, NoText, NoWords, OtherBook,
)
from heardseams.live import Live
from tests.helper import error_kind, left_comb, nested, odd_things, right_comb, zigzag

THREE = (1, 2, 3)
BOOK = Book(2, 2, 1, {((0,), (1,)): ((1,), (0,)), ((0, 0), (1,)): ((1, 1), (1,))})
WORDS = ((0, 0), (1,), (0, 1))
SILENT = Book(2, 1, 1, {})
CHOICES = (((1, 0),), ((2, 5), (1, 7)), ((1, 0), (3, 0)))
RULES = ((((0, 1),), ((1,),), (1,), (None,)),)


def backward(left, right):
    return left[::-1], right[::-1]


# The module, the function, its arguments by name, a call that is right.
CALLS = (
    ("shapes", "is_shape", ("thing",), ((1, 0, 1),)),
    ("shapes", "shapes_many", ("words",), (40,)),
    ("shapes", "all_shapes", ("words",), (5,)),
    ("shapes", "shape_at", ("words", "number"), (40, 10 ** 20)),
    ("shapes", "shape_number", ("shape",), (zigzag(40),)),
    ("shapes", "outermost", ("shape",), ((1, 0, 1),)),
    ("shapes", "joined", ("shape", "seam"), ((1, 0, 1), 2)),
    ("shapes", "stands", ("shape", "one", "other"), ((1, 0, 1), 0, 2)),
    ("shapes", "part_of", ("shape", "first", "last"), ((1, 0, 1), 2, 3)),
    ("shapes", "joined_shape", ("one", "other"), ((1, 0, 1), (0,))),
    ("shapes", "turned", ("shape",), ((1, 2, 0),)),
    ("shapes", "ballot", ("shape",), ((1, 2, 0),)),
    ("shapes", "from_ballot", ("thing",), ((1, 1, -1, -1),)),
    ("shapes", "regroupings", ("shape",), ((1, 2, 0),)),
    ("shapes", "regrouped", ("shape", "one", "other"), ((1, 2, 0), 2, 0)),
    ("numbers", "places", ("lengths",), ((1, 2, 3),)),
    ("numbers", "unlike", ("lengths", "one", "other"), ((1, 2, 3), (0, 1), (1, 0))),
    ("numbers", "number", ("lengths", "one", "other"), ((1, 2, 3), (0, 1), (1, 0))),
    ("numbers", "middles", ("lengths", "shape"), ((1, 2, 3), (1, 0))),
    ("numbers", "road", ("lengths", "one", "other"), ((1, 2, 3), (0, 1), (1, 0))),
    ("numbers", "road_fault", ("lengths", "one", "other", "most", "thing"),
     ((1, 2, 3), (0, 1), (1, 0), 2, [(0, 1)])),
    ("numbers", "alike_in_all", ("lengths", "one", "other", "reach"), ((1, 2, 3), (0, 1), (1, 0), 2)),
    ("books", "Book", ("sounds", "ahead", "behind", "table"), (2, 1, 1, {((0,), (1,)): ((1,), (0,))})),
    ("books", "from_rules", ("sounds", "ahead", "behind", "rules"), (2, 1, 1, RULES)),
    ("books", "by_function", ("sounds", "ahead", "behind", "function"), (2, 2, 1, backward)),
    ("books", "one_behind_another", ("book", "other"), (BOOK, BOOK)),
    ("books", "mirrored", ("book",), (BOOK,)),
    ("saying", "said", ("book", "words", "shape"), (BOOK, WORDS, (0, 1))),
    ("saying", "changes", ("book", "words", "shape"), (BOOK, WORDS, (1, 0))),
    ("saying", "left_alone", ("book", "words", "shape"), (BOOK, WORDS, (0, 1))),
    ("saying", "met", ("book", "one", "other"), (BOOK, (0, 0), (1,))),
    ("forms", "form", ("lengths", "shape", "m"), (THREE, (1, 0), 2)),
    ("forms", "same_class", ("lengths", "one", "other", "m"), (THREE, (0, 1), (1, 0), 2)),
    ("forms", "is_form", ("lengths", "shape", "m"), (THREE, (1, 0), 2)),
    ("forms", "classes_many", ("lengths", "m"), (THREE, 3)),
    ("forms", "form_at", ("lengths", "m", "number"), (THREE, 3, 0)),
    ("forms", "form_number", ("lengths", "shape", "m"), (THREE, (1, 0), 3)),
    ("forms", "class_size", ("lengths", "shape", "m"), (THREE, (1, 0), 3)),
    ("forms", "class_of", ("lengths", "shape", "m"), (THREE, (1, 0), 2)),
    ("forms", "left_form", ("lengths", "shape", "m"), (THREE, (0, 1), 2)),
    ("forms", "neighbours", ("lengths", "shape", "m"), (THREE, (0, 1), 3)),
    ("forms", "leaning_size", ("leaning",), (("left", "right"),)),
    ("forms", "class_sizes", ("lengths", "m"), (THREE, 3)),
    ("forms", "greatest_class", ("lengths", "m"), (THREE, 2)),
    ("forms", "unlike_near", ("lengths", "one", "other", "m"), (THREE, (0, 1), (1, 0), 3)),
    ("forms", "first_joined", ("lengths", "shape"), (THREE, (0, 1))),
    ("forks", "near", ("lengths", "shape", "m"), (THREE, (0, 1), 3)),
    ("forks", "shape_of", ("lengths", "m", "table"), ((1, 2, 3, 1), 4, {(0, 1): "under", (1, 2): "over"})),
    ("forks", "groups", ("lengths", "shapes", "m"), (THREE, [(0, 1), (1, 0), (0, 1)], 3)),
    ("forks", "forks", ("lengths", "shapes"), (THREE, [(0, 1), (1, 0), (0, 1)])),
    ("forks", "same_tongue", ("lengths", "shapes", "m"), (THREE, [(0, 1), (1, 0), (0, 1)], 3)),
    ("partings", "parting", ("lengths", "one", "other"), (THREE, (0, 1), (1, 0))),
    ("partings", "parts_them", ("book", "lengths", "one", "other"), (BOOK, THREE, (0, 1), (1, 0))),
    ("partings", "heard_groups", ("book", "lengths", "shapes"), (BOOK, THREE, [(0, 1), (1, 0), (0, 1)])),
    ("partings", "pauses", ("lengths", "shape", "cap"), (THREE, (0, 1), 2)),
    ("heardsteps", "steps", ("one", "other"), ((0, 1, 2), (2, 1, 0))),
    ("heardsteps", "heard_steps", ("lengths", "one", "other", "m"), (THREE, (0, 1), (1, 0), 3)),
    ("heardsteps", "least_road", ("lengths", "one", "other", "most"), (THREE, (0, 1), (1, 0), 2)),
    ("heardsteps", "to_the_right", ("one", "other"), ((1, 0), (0, 1))),
    ("toldbooks", "matters", ("book",), (BOOK,)),
    ("toldbooks", "matters_many", ("book",), (BOOK,)),
    ("toldbooks", "unlike_sayings", ("book", "words"), (BOOK, WORDS)),
    ("toldbooks", "most_sayings", ("lengths", "reach"), (THREE, 3)),
    ("toldwords", "summary", ("book", "row"), (BOOK, (0, 1, 1))),
    ("toldwords", "summaries", ("book", "words"), (BOOK, WORDS)),
    ("toldwords", "ever_matters", ("book", "words"), (BOOK, WORDS)),
    ("toldwords", "blamed", ("book", "words"), (BOOK, WORDS)),
    ("toldwords", "phrase_for", ("book", "words", "thing"), (BOOK, WORDS, ((0,), (0, 1)))),
    ("tellingback", "heard_as", ("book", "words", "row"), (BOOK, WORDS, (1, 1, 0, 0, 1))),
    ("tellingback", "sayings", ("book", "words"), (BOOK, WORDS)),
    ("tellingback", "surely", ("book", "words", "row"), (BOOK, ((1,),) * 4, (1,) * 4)),
    ("tellingback", "asks", ("book", "words", "row"), (BOOK, ((1,),) * 4, (1,) * 4)),
    ("chains", "chain_ends", ("book", "word", "times"), (BOOK, (0, 1), 10 ** 30)),
    ("chains", "chain_sound", ("book", "word", "times", "place"), (BOOK, (0, 1), 10 ** 30, 10 ** 20)),
    ("chains", "chain_count", ("book", "word", "times", "sound"), (BOOK, (0, 1), 10 ** 30, 1)),
    ("chains", "chain_ring", ("book", "word"), (BOOK, (0, 1))),
    ("chains", "doubled_ends", ("book", "word", "times"), (BOOK, (0, 1), 10 ** 30)),
    ("intime", "shape_in_time", ("order",), ((0, 2, 1),)),
    ("intime", "orders_many", ("shape",), ((1, 0, 1),)),
    ("intime", "orders_of", ("shape",), ((1, 0, 1),)),
    ("intime", "said_in_time", ("book", "words", "order"), (BOOK, WORDS, (1, 0))),
    ("intime", "looked_at", ("book", "words", "shape"), (BOOK, WORDS, (1, 0))),
    ("intime", "history", ("book", "words", "shape", "place"), (BOOK, WORDS, (1, 0), 2)),
    ("choices", "cheapest_apart", ("choices", "one", "other", "reach"), (CHOICES, (0, 1), (1, 0), 3)),
    ("choices", "cheapest_alike", ("choices", "one", "other", "reach"), (CHOICES, (0, 1), (1, 0), 2)),
    ("shelves", "parted_by", ("book", "other", "words"), (BOOK, SILENT, WORDS)),
    ("shelves", "same_for", ("book", "other", "words"), (BOOK, SILENT, WORDS)),
    ("shelves", "hears_all", ("book", "words"), (BOOK, WORDS)),
    ("shelves", "book_at", ("number",), (17,)),
    ("shelves", "number_of_book", ("book",), (SILENT,)),
    ("shelves", "numbers_of", ("lengths", "shapes"), (THREE, [(0, 1), (1, 0), (0, 1)])),
    ("shelves", "least_reach", ("lengths", "shapes"), (THREE, [(0, 1), (1, 0), (0, 1)])),
    ("live", "Live", ("book", "words", "shape"), (BOOK, WORDS, (1, 0))),
    ("texts", "phrase_text", ("words", "shape"), (WORDS, (1, 0))),
    ("texts", "read_phrase", ("text",), ("((00 1) 01)",)),
    ("texts", "shape_text", ("lengths", "shape"), (THREE, (1, 0))),
    ("texts", "read_shape", ("text",), ("((1 2) 3)",)),
    ("texts", "book_text", ("book",), (BOOK,)),
    ("texts", "read_book", ("text",), ("book 2 1 1\n0 0 1 0",)),
    ("desk", "Desk", ("book",), (BOOK,)),
)
CLASSES = {
    "Book": ("sounds", "ahead", "behind", "table", "reach"),
    "Live": ("words", "shape", "said", "exchange", "regroup", "put", "take", "back", "looked"),
    "Desk": ("tell", "undoable"),
}
# Each object of these classes is equal to itself alone.
LIVING = ("Live", "Desk")
KINDS = {
    "is_shape": bool, "shapes_many": int, "all_shapes": list, "shape_at": tuple, "shape_number": int,
    "outermost": int, "joined": tuple, "stands": str, "part_of": tuple, "joined_shape": tuple, "turned": tuple,
    "ballot": tuple, "from_ballot": tuple, "regroupings": list, "regrouped": tuple, "places": tuple,
    "unlike": list, "number": int, "middles": list, "road": list, "road_fault": None.__class__,
    "alike_in_all": bool,
    "Book": Book, "from_rules": Book, "by_function": Book, "one_behind_another": Book, "mirrored": Book,
    "said": tuple, "changes": list, "left_alone": tuple, "met": tuple, "form": tuple, "same_class": bool,
    "is_form": bool, "classes_many": int, "form_at": tuple, "form_number": int, "class_size": int, "class_of": list,
    "left_form": tuple, "neighbours": list, "leaning_size": int, "class_sizes": list, "greatest_class": tuple,
    "unlike_near": list, "first_joined": tuple, "near": dict, "shape_of": tuple, "groups": list, "forks": list,
    "same_tongue": list, "parting": Book, "parts_them": bool, "heard_groups": list, "pauses": list, "steps": int,
    "heard_steps": int, "least_road": list, "to_the_right": bool, "matters": tuple, "matters_many": int,
    "unlike_sayings": int, "most_sayings": int, "summary": tuple, "summaries": list, "ever_matters": tuple,
    "blamed": list, "phrase_for": tuple, "heard_as": list, "sayings": dict, "surely": dict, "asks": int,
    "chain_ends": tuple, "chain_sound": int, "chain_count": int, "chain_ring": tuple, "doubled_ends": tuple,
    "shape_in_time": tuple, "orders_many": int, "orders_of": list, "said_in_time": tuple, "looked_at": list,
    "history": list, "cheapest_apart": tuple, "cheapest_alike": tuple, "parted_by": tuple, "same_for": tuple,
    "hears_all": bool, "book_at": Book, "number_of_book": int, "numbers_of": list, "least_reach": int, "Live": Live,
    "phrase_text": str, "read_phrase": tuple, "shape_text": str, "read_shape": tuple, "book_text": str,
    "read_book": Book, "Desk": Desk,
}
# The errors of the arguments of each function, in their order; None where none is named.
REFUSALS = {
    "shapes_many": (NoNumber,), "all_shapes": (NoNumber,), "shape_at": (NoNumber, NoNumber),
    "shape_number": (NoShape,), "outermost": (NoShape,), "joined": (NoShape, NoSeam),
    "stands": (NoShape, NoSeam, NoSeam), "part_of": (NoShape, NoPart, NoPart), "joined_shape": (NoShape, NoShape),
    "turned": (NoShape,), "ballot": (NoShape,), "from_ballot": (NoBallot,), "regroupings": (NoShape,),
    "regrouped": (NoShape, NoStep, NoStep), "places": (NoLengths,), "unlike": (NoLengths, NoShape, NoShape),
    "number": (NoLengths, NoShape, NoShape), "middles": (NoLengths, NoShape), "road": (NoLengths, NoShape, NoShape),
    "road_fault": (NoLengths, NoShape, NoShape, NoNumber), "alike_in_all": (NoLengths, NoShape, NoShape, NoNumber),
    "Book": (NoBook, NoBook, NoBook, NoBook), "from_rules": (NoBook, NoBook, NoBook, NoBook),
    "by_function": (NoBook, NoBook, NoBook), "one_behind_another": (None, OtherBook),
    "said": (None, NoWords, NoShape), "changes": (None, NoWords, NoShape), "left_alone": (None, NoWords, NoShape),
    "met": (None, NoRow, NoRow), "form": (NoLengths, NoShape, NoNumber),
    "same_class": (NoLengths, NoShape, NoShape, NoNumber), "is_form": (NoLengths, NoShape, NoNumber),
    "classes_many": (NoLengths, NoNumber), "form_at": (NoLengths, NoNumber, NoNumber),
    "form_number": (NoLengths, NoShape, NoNumber), "class_size": (NoLengths, NoShape, NoNumber),
    "class_of": (NoLengths, NoShape, NoNumber), "left_form": (NoLengths, NoShape, NoNumber),
    "neighbours": (NoLengths, NoShape, NoNumber), "leaning_size": (NoLeaning,), "class_sizes": (NoLengths, NoNumber),
    "greatest_class": (NoLengths, NoNumber), "unlike_near": (NoLengths, NoShape, NoShape, NoNumber),
    "first_joined": (NoLengths, NoShape), "near": (NoLengths, NoShape, NoNumber),
    "shape_of": (NoLengths, NoNumber, NoTable), "groups": (NoLengths, NoShapes, NoNumber),
    "forks": (NoLengths, NoShapes), "same_tongue": (NoLengths, NoShapes, NoNumber),
    "parting": (NoLengths, NoShape, NoShape), "parts_them": (None, NoLengths, NoShape, NoShape),
    "heard_groups": (None, NoLengths, NoShapes), "pauses": (NoLengths, NoShape, NoNumber),
    "steps": (NoShape, NoShape), "heard_steps": (NoLengths, NoShape, NoShape, NoNumber),
    "least_road": (NoLengths, NoShape, NoShape, NoNumber), "to_the_right": (NoShape, NoShape),
    "unlike_sayings": (None, NoWords), "most_sayings": (NoLengths, NoNumber), "summary": (None, NoRow),
    "summaries": (None, NoList), "ever_matters": (None, NoList), "blamed": (None, NoList),
    "phrase_for": (None, NoList), "heard_as": (None, NoWords, NoRow), "sayings": (None, NoWords),
    "surely": (None, NoWords, NoRow), "asks": (None, NoWords, NoRow), "chain_ends": (None, NoWords, NoNumber),
    "chain_sound": (None, NoWords, NoNumber, NoNumber), "chain_count": (None, NoWords, NoNumber, NoNumber),
    "chain_ring": (None, NoWords), "doubled_ends": (None, NoWords, NoNumber), "shape_in_time": (NoOrder,),
    "orders_many": (NoShape,), "orders_of": (NoShape,), "said_in_time": (None, NoWords, NoOrder),
    "looked_at": (None, NoWords, NoShape), "history": (None, NoWords, NoShape, NoNumber),
    "cheapest_apart": (NoChoices, NoShape, NoShape, NoNumber), "cheapest_alike": (NoChoices, NoShape, NoShape, NoNumber),
    "parted_by": (None, OtherBook, NoWords), "same_for": (None, OtherBook, NoList), "hears_all": (None, NoWords),
    "book_at": (NoNumber,), "numbers_of": (NoLengths, NoShapes), "least_reach": (NoLengths, NoShapes),
    "Live": (None, NoWords, NoShape), "phrase_text": (NoWords, NoShape), "read_phrase": (NoText,),
    "shape_text": (NoLengths, NoShape), "read_shape": (NoText,), "read_book": (NoText,),
}


def function_of(module, name):
    return getattr(importlib.import_module("heardseams." + module), name)


def never_right():
    """Values that no function takes for any argument whose error is named."""
    return [thing for thing in odd_things() if thing not in ((), {}, ((0,),), "0") and thing != 10 ** 40]


class Interface(unittest.TestCase):
    def test_each_function_is_defined_where_it_is_listed(self):
        for module, name, arguments, _ in CALLS:
            function = function_of(module, name)
            self.assertTrue(inspect.isclass(function) if name in CLASSES else inspect.isfunction(function))
            self.assertEqual(function.__module__, "heardseams." + module)
            self.assertEqual(function.__name__, name)
            self.assertEqual(tuple(inspect.signature(function).parameters), arguments)

    def test_arguments_by_position(self):
        for module, name, _, given in CALLS:
            for parameter in inspect.signature(function_of(module, name)).parameters.values():
                self.assertEqual(parameter.kind, parameter.POSITIONAL_OR_KEYWORD)
                self.assertIs(parameter.default, parameter.empty)

    def test_each_method_is_defined_in_its_class(self):
        for module, name, _, given in CALLS:
            for method in CLASSES.get(name, ()):
                kind = function_of(module, name)
                self.assertTrue(inspect.isfunction(vars(kind)[method]), (name, method))
                self.assertEqual(vars(kind)[method].__module__, kind.__module__)

    def test_the_arguments_of_methods(self):
        for name, method, arguments in (
            ("Live", "exchange", ("at", "word")), ("Live", "regroup", ("one", "other")), ("Live", "put", ("at", "word", "side")),
            ("Live", "take", ("at",)), ("Live", "back", ()), ("Live", "looked", ()), ("Live", "words", ()), ("Live", "shape", ()),
            ("Live", "said", ()), ("Desk", "tell", ("line",)), ("Desk", "undoable", ()), ("Book", "sounds", ()),
            ("Book", "ahead", ()), ("Book", "behind", ()), ("Book", "table", ()), ("Book", "reach", ()),
        ):
            self.assertIn(method, CLASSES[name])
            found = inspect.signature(getattr({"Book": Book, "Live": Live, "Desk": Desk}[name], method)).parameters
            self.assertEqual(tuple(found), ("self",) + arguments)

    def test_each_error_is_defined_in_its_file(self):
        for name, kind in inspect.getmembers(errors, inspect.isclass):
            self.assertEqual(kind.__module__, "heardseams.errors", name)

    def test_kinds_of_values(self):
        for module, name, _, given in CALLS:
            self.assertIs(function_of(module, name)(*given).__class__, KINDS[name], name)

    def test_kinds_of_what_is_within_the_values(self):
        for module, name, _, given in CALLS:
            self.check_plain(function_of(module, name)(*given))

    def check_plain(self, thing):
        if isinstance(thing, dict):
            self.check_plain(tuple(thing.items()))
        elif isinstance(thing, list):
            for part in thing:
                self.assertIn(part.__class__, (int, tuple, list, None.__class__))
                self.check_plain(part)
        elif isinstance(thing, tuple):
            for part in thing:
                self.assertIn(part.__class__, (int, tuple, str, None.__class__))
                self.check_plain(part)


class Lists(unittest.TestCase):
    def test_each_list_is_new_and_equal(self):
        for module, name, _, given in CALLS:
            function = function_of(module, name)
            first, second = function(*given), function(*given)
            if name not in LIVING:
                self.assertEqual(first, second)
            if isinstance(first, list):
                self.assertIsNot(first, second)
                kept = list(second)
                first.append("more")
                first[0] = None
                self.assertEqual(second, kept)
                self.assertEqual(function(*given), kept)

    def test_lists_that_are_empty_are_new_too(self):
        shapes = importlib.import_module("heardseams.shapes")
        numbers = importlib.import_module("heardseams.numbers")
        calls = (
            (shapes.regroupings, ((),)), (numbers.unlike, ((1,), (), ())), (numbers.middles, ((1,), ())),
            (numbers.road, ((1,), (), ())),
        )
        for function, given in calls:
            found = function(*given)
            found.append(1)
            self.assertEqual(function(*given), [])

    def test_each_dict_is_new_and_equal(self):
        for module, name, _, given in CALLS:
            function = function_of(module, name)
            first, second = function(*given), function(*given)
            if isinstance(first, dict):
                self.assertIsNot(first, second)
                kept = dict(second)
                first["more"] = 1
                self.assertEqual(second, kept)
                self.assertEqual(function(*given), kept)

    def test_no_argument_is_changed(self):
        for module, name, _, given in CALLS:
            kept = copy.deepcopy(given)
            function_of(module, name)(*given)
            self.assertEqual(given, kept)

    def test_a_list_that_is_judged_is_not_changed(self):
        road_fault = function_of("numbers", "road_fault")
        for thing in ([(0, 1)], [(0, 1), (1, 0)], [(5, 5)], [None], []):
            kept = copy.deepcopy(thing)
            road_fault((1, 2, 3), (0, 1), (1, 0), 0, thing)
            self.assertEqual(thing, kept)

    def test_a_wrong_argument_is_not_changed(self):
        for module, name, _, given in CALLS:
            for thing in odd_things():
                kept = repr(thing)
                error_kind(function_of(module, name), *[thing] * len(given))
                self.assertEqual(repr(thing), kept)


class Refused(unittest.TestCase):
    def test_every_wrong_thing_gets_the_error_that_is_named(self):
        for module, name, _, given in CALLS:
            for at, kind in enumerate(REFUSALS.get(name, ())):
                for thing in never_right() if kind else ():
                    wrong = given[:at] + (thing,) + given[at + 1:]
                    self.assertIs(error_kind(function_of(module, name), *wrong), kind, (name, at, thing))

    def test_the_first_of_two_wrong_arguments_is_told(self):
        for module, name, _, given in CALLS:
            kinds = REFUSALS.get(name, ())
            for first in range(len(kinds)):
                for second in range(first + 1, len(given)):
                    for thing in never_right() if kinds[first] else ():
                        for other in (None, thing):
                            wrong = list(given)
                            wrong[first], wrong[second] = thing, other
                            found = error_kind(function_of(module, name), *wrong)
                            self.assertIs(found, kinds[first], (name, first, second))

    def test_flags_are_no_integers(self):
        shapes = importlib.import_module("heardseams.shapes")
        self.assertIs(error_kind(shapes.shapes_many, True), NoNumber)
        self.assertIs(error_kind(shapes.shape_at, 1, False), NoNumber)
        self.assertIs(error_kind(shapes.joined, (0, 1), True), NoSeam)
        self.assertIs(error_kind(shapes.part_of, (0, 1), 1, True), NoPart)
        self.assertIs(error_kind(shapes.from_ballot, (True, -1)), NoBallot)
        self.assertIs(error_kind(function_of("numbers", "places"), (1, True)), NoLengths)

    def test_no_recursion_error(self):
        for module, name, _, given in CALLS:
            for kind in (list, tuple):
                deep = nested(kind, 30)
                found = error_kind(function_of(module, name), *[deep] * len(given))
                self.assertIsNot(found, RecursionError)

    def test_the_deepest_shapes_need_little_of_the_stack(self):
        limit = sys.getrecursionlimit()
        sys.setrecursionlimit(len(inspect.stack()) + 120)
        try:
            for shape in (left_comb(40), right_comb(40), zigzag(40)):
                for name in ("is_shape", "shape_number", "ballot", "regroupings", "turned"):
                    function_of("shapes", name)(shape)
                back = function_of("shapes", "from_ballot")(function_of("shapes", "ballot")(shape))
                self.assertEqual(back, shape)
                for m in (1, 2, 10 ** 9):
                    for name in ("form", "left_form", "form_number", "class_size"):
                        function_of("forms", name)((1,) * 40, shape, m)
                function_of("forms", "form_at")((1,) * 40, 10 ** 9, function_of("shapes", "shape_number")(shape))
                words = ((0, 1),) * 40
                function_of("saying", "said")(BOOK, words, shape)
                text = function_of("texts", "phrase_text")(words, shape)
                self.assertEqual(function_of("texts", "read_phrase")(text), (words, shape))
                function_of("live", "Live")(BOOK, words, shape).take(20)
                desk = function_of("desk", "Desk")(BOOK)
                desk.tell("phrase " + text)
                self.assertEqual(desk.tell("form 1000"), text)
        finally:
            sys.setrecursionlimit(limit)


if __name__ == "__main__":
    unittest.main()
