"""[22]: the desk."""

import itertools
import random
import unittest

from heardseams.books import Book
from heardseams.desk import Desk
from heardseams.errors import (
    NoLine, NoNumber, NoSeam, NoStep, NoText, NothingDone, NothingKept, OtherWords, TooMany,
)
from heardseams.forms import class_size, classes_many, form
from heardseams.intime import looked_at
from heardseams.numbers import number
from heardseams.saying import said
from heardseams.shapes import all_shapes, regrouped, regroupings
from heardseams.texts import phrase_text
from heardseams.toldbooks import unlike_sayings
from tests.helper import (
    error_kind, left_comb, long_trees, odd_things, raised, random_row, right_comb, shape_of, some_phrases, trees, zigzag,
)

ONES = Book(3, 1, 1, {((0,), (0,)): ((1,), (0,))})
PHRASE = "phrase ((0 0) (0 2))"


def desk_with(*lines):
    desk = Desk(ONES)
    for line in lines:
        desk.tell(line)
    return desk


def lengths_of(words):
    return tuple(map(len, words))


class Lines(unittest.TestCase):
    def test_by_hand(self):
        desk = Desk(ONES)
        for line, answer in (
            ("phrase ((0 0) (0 2))", "ok"), ("show", "((0 0) (0 2))"), ("say", "1102"), ("regroup 1 2", "ok"),
            ("show", "(((0 0) 0) 2)"), ("say", "1102"), ("form 2", "(((0 0) 0) 2)"), ("form 9", "(((0 0) 0) 2)"),
            ("form 1", "(0 (0 (0 2)))"), ("number (0 (0 (0 2)))", "1"), ("number ((1 1) (1 1))", "1"),
            ("number (((2 2) 2) 2)", "same"), ("alike ((1 1) (0 2))", "yes"), ("alike (0 (0 (0 2)))", "no"), ("alike 1102", "yes"), ("alike ((11 0) 2)", "yes"),
            ("classes 1", "1"), ("classes 2", "4"), ("classes 999999999", "5"), ("size 1", "5"), ("size 2", "1"),
            ("sayings", "2"), ("look 0", "0 1"), ("look 2", "2 3"), ("undo", "ok"), ("show", "((0 0) (0 2))"),
            ("phrase 22", "ok"), ("show", "22"), ("say", "22"), ("undo", "ok"), ("say", "1102"), ("undo", "ok"),
        ):
            self.assertEqual(desk.tell(line), answer, line)
        self.assertEqual(desk.undoable(), 0)

    def test_answers_are_those_of_the_functions(self):
        chance = random.Random(1)
        for many in range(1, 7):
            for book, words in some_phrases(400 + many, 4, many, 3):
                desk = Desk(book)
                lengths = lengths_of(words)
                for shape in all_shapes(many)[::3]:
                    text = phrase_text(words, shape)
                    self.assertEqual(desk.tell("phrase " + text), "ok")
                    self.assertEqual(desk.tell("show"), text)
                    self.assertEqual(desk.tell("say"), "".join(map(str, said(book, words, shape))))
                    for m in (1, 2, 3, 5, 10, 999999999):
                        self.assertEqual(desk.tell(f"form {m}"), phrase_text(words, form(lengths, shape, m)))
                        self.assertEqual(desk.tell(f"classes {m}"), str(classes_many(lengths, m)))
                        self.assertEqual(desk.tell(f"size {m}"), str(class_size(lengths, shape, m)))
                    self.assertEqual(desk.tell("sayings"), str(unlike_sayings(book, words)))
                    for seam, (first, last) in enumerate(looked_at(book, words, shape)):
                        self.assertEqual(desk.tell(f"look {seam}"), f"{first} {last}")
                    self.check_others(chance, desk, book, words, shape)

    def check_others(self, chance, desk, book, words, shape):
        """What the desk tells of the phrase it keeps and of others."""
        for other in all_shapes(len(words))[::4] + [shape]:
            row = tuple(random_row(chance, book.sounds(), len(word)) for word in words)
            expected = number(lengths_of(words), shape, other)
            self.assertEqual(
                desk.tell("number " + phrase_text(row, other)), "same" if expected is None else str(expected),
            )
            for others in (words, row):
                alike = said(book, words, shape) == said(book, others, other)
                self.assertEqual(desk.tell("alike " + phrase_text(others, other)), "yes" if alike else "no")
        row = said(book, words, shape)
        self.assertEqual(desk.tell("alike " + "".join(map(str, row))), "yes")

    def test_forty_words(self):
        for at, tree in enumerate(long_trees(5, 2)):
            book, words = some_phrases(410 + at, 1, 40, 3)[0]
            shape = shape_of(tree)
            desk = Desk(book)
            desk.tell("phrase " + phrase_text(words, shape))
            self.assertEqual(desk.tell("say"), "".join(map(str, said(book, words, shape))))
            self.assertEqual(desk.tell("form 4"), phrase_text(words, form(lengths_of(words), shape, 4)))
            self.assertEqual(desk.tell("classes 4"), str(classes_many(lengths_of(words), 4)))
            for p, q in regroupings(shape)[:5]:
                desk.tell(f"regroup {p} {q}")
                self.assertEqual(desk.tell("show"), phrase_text(words, regrouped(shape, p, q)))
                desk.tell("undo")
            self.assertIs(error_kind(desk.tell, "sayings"), TooMany)

    def test_all_regroupings(self):
        words = ((0,), (0, 2), (1,), (0,))
        for tree in trees(0, 3):
            shape = shape_of(tree)
            for p, q in itertools.product(range(5), repeat=2):
                desk = desk_with("phrase " + phrase_text(words, shape))
                if (p, q) in regroupings(shape):
                    self.assertEqual(desk.tell(f"regroup {p} {q}"), "ok")
                    self.assertEqual(desk.tell("show"), phrase_text(words, regrouped(shape, p, q)))
                    self.assertEqual(desk.undoable(), 2)
                else:
                    self.assertIs(error_kind(desk.tell, f"regroup {p} {q}"), NoStep)
                    self.assertEqual((desk.tell("show"), desk.undoable()), (phrase_text(words, shape), 1))

    def test_a_phrase_with_other_words_may_be_alike(self):
        desk = desk_with("phrase (0 0)")
        for text, answer in (("10", "yes"), ("(1 0)", "yes"), ("(0 0)", "yes"), ("00", "no"), ("1", "no"), ("(1 00)", "no")):
            self.assertEqual(desk.tell("alike " + text), answer)


class Undo(unittest.TestCase):
    def test_phrases_and_regroupings_one_by_one(self):
        desk = Desk(ONES)
        self.assertEqual(desk.undoable(), 0)
        lines = ("phrase (0 0)", "phrase ((0 0) 0)", "regroup 1 0", "regroup 0 1", "phrase 2")
        shown = []
        for at, line in enumerate(lines):
            self.assertEqual(desk.tell(line), "ok")
            self.assertEqual(desk.undoable(), at + 1)
            shown.append(desk.tell("show"))
        self.assertEqual(shown, ["(0 0)", "((0 0) 0)", "(0 (0 0))", "((0 0) 0)", "2"])
        while shown:
            self.assertEqual(desk.tell("show"), shown.pop())
            self.assertEqual(desk.tell("undo"), "ok")
            self.assertEqual(desk.undoable(), len(shown))
        self.assertIs(error_kind(desk.tell, "show"), NothingKept)
        self.assertIs(error_kind(desk.tell, "undo"), NothingDone)
        self.assertEqual(desk.undoable(), 0)
        self.assertEqual(desk.tell("phrase 1"), "ok")
        self.assertEqual((desk.tell("show"), desk.undoable()), ("1", 1))

    def test_going_on_behind_what_was_taken_back(self):
        desk = desk_with("phrase 0", "phrase 1", "undo", "phrase 2")
        self.assertEqual((desk.tell("show"), desk.undoable()), ("2", 2))
        desk.tell("undo")
        self.assertEqual(desk.tell("show"), "0")

    def test_lines_that_ask_cannot_be_taken_back(self):
        desk = desk_with(PHRASE)
        for line in (
            "show", "say", "form 2", "number (((0 0) 0) 0)", "alike 0", "classes 2", "size 2", "sayings", "look 0",
        ):
            desk.tell(line)
            self.assertEqual(desk.undoable(), 1)
            self.assertEqual(desk.tell("show"), "((0 0) (0 2))")

    def test_the_same_phrase_again_is_a_line_to_take_back(self):
        desk = desk_with("phrase 0", "phrase 0")
        self.assertEqual(desk.undoable(), 2)

    def test_two_desks(self):
        one, other = desk_with("phrase 0"), desk_with("phrase 1")
        one.tell("undo")
        self.assertEqual((one.undoable(), other.tell("show"), other.undoable()), (0, "1", 1))


class Refused(unittest.TestCase):
    def check(self, kind, line, *before):
        """The line raises an error of this kind, and nothing changes."""
        desk = desk_with(*before)
        many = desk.undoable()
        shown = desk.tell("show") if many else None
        error = raised(desk.tell, line)
        self.assertIs(error.__class__, kind, line)
        self.assertEqual(desk.undoable(), many)
        if many:
            self.assertEqual(desk.tell("show"), shown)
        else:
            self.assertIs(error_kind(desk.tell, "show"), NothingKept)
        return error

    def everywhere(self, kind, line):
        self.check(kind, line)
        self.check(kind, line, PHRASE)
        self.check(kind, line, "phrase 0")

    def test_no_line(self):
        wrong = odd_things() + [
            "phrase", "number", "alike", "regroup", "regroup ", "regroup 1", "regroup 1 ", "regroup 0  1", "regroup  0 1",
            "regroup 0 1 ", " regroup 0 1", "regroup 0 1 2", "regroup 0,1", "regroup a 1", "regroup 0 b", "regroup -1 0",
            "regroup 0 +1", "regroup 00 1", "regroup 0 01", "regroup 0 1.0", "Regroup 0 1", "regroup 1_0 1", "undo ", " undo",
            "undo 1", "Undo", "undo undo", "show ", "show 1", "SHOW", "say ", "say 0", "says", "form", "form ", "form  2",
            "form 2 ", "form 2 2", "form 02", "form x", "form -2", "form 2.0", "form \t2", "classes", "classes 00",
            "classes two", "size", "size 1 1", "size (0 0)", "sayings 1", "sayings ", "look", "look ", "look 0 1", "look 00",
            "look 01", "look -1", "tell", "phrases 0", "phrase\t0", "phrase(0 0)", "alike\t0", "numbers 0", "number\n0",
            "show\n", "\nshow", "phrase 0\n", "phrase (0\n0)", "undo\n", "say\nsay", "alike 0\n", "phrase \n", "\n", "\n\n", " ", "  ",
            "words", "back", "(0 0)", "form 1" * 5000, " " * 5000, "form " + "1" * 5000,
        ]
        for thing in wrong:
            self.everywhere(NoLine, thing)

    def test_numbers_of_nine_and_ten_figures(self):
        for line in ("form {}", "classes {}", "size {}", "look {}", "regroup {} 0", "regroup 0 {}"):
            for figures in ("1000000000", "9999999999", "0000000001", "000000000", "012345678"):
                self.everywhere(NoLine, line.format(figures))
        desk = desk_with(PHRASE)
        self.assertEqual(desk.tell("form 999999999"), "((0 0) (0 2))")
        self.assertEqual(desk.tell("classes 999999999"), "5")
        self.assertEqual(desk.tell("size 100000000"), "1")
        self.check(NoSeam, "look 999999999", PHRASE)
        self.check(NoStep, "regroup 999999999 0", PHRASE)
        self.check(NoStep, "regroup 0 999999999", PHRASE)

    def test_no_text(self):
        wrong = [
            "", " ", " 0", "0 ", "  (0 0)", "(0 0) ", "(0 0", "(0  0)", "0 0", "()", "(0)", "3", "(0 3)", "8", "a", "(0 0 0)", "0\t",
            "0" * 201, "(" * 5000, "(0 " * 40 + "0" + ")" * 40, "01x",
        ]
        for name in ("phrase", "number", "alike"):
            for text in wrong:
                self.everywhere(NoText, name + " " + text)

    def test_sounds_of_the_book_alone(self):
        for sounds in range(1, 9):
            desk = Desk(Book(sounds, 1, 1, {}))
            self.assertEqual(desk.tell(f"phrase (0 {sounds - 1})"), "ok")
            self.assertEqual(desk.tell(f"alike 0{sounds - 1}"), "yes")
            for name in ("phrase", "alike", "number"):
                self.assertIs(error_kind(desk.tell, f"{name} (0 {sounds})"), NoText)
            self.assertEqual(desk.undoable(), 1)

    def test_nothing_kept(self):
        for line in (
            "show", "say", "form 2", "form 0", "number 0", "number (0 0)", "alike 0", "classes 2", "classes 0", "size 2",
            "size 0", "sayings", "look 0", "look 999999999", "regroup 0 1", "regroup 0 0",
        ):
            self.check(NothingKept, line)
            self.check(NothingKept, line, "phrase 0", "phrase (0 0)", "undo", "undo")

    def test_other_words(self):
        for text in ("0", "(0 0)", "((0 0) 0)", "((0 0) (0 02))", "((00 0) (0 2))", "(((0 0) (0 2)) 0)", "0002"):
            self.check(OtherWords, "number " + text, PHRASE)
        self.check(OtherWords, "number (00 0)", "phrase (0 00)")
        desk = desk_with("phrase (0 00)")
        self.assertEqual(desk.tell("number (1 22)"), "same")

    def test_no_step(self):
        for line in ("regroup 0 1", "regroup 0 0", "regroup 1 1", "regroup 2 1", "regroup 0 2", "regroup 1 3", "regroup 3 1"):
            self.check(NoStep, line, PHRASE)
        self.check(NoStep, "regroup 0 0", "phrase 0")
        self.check(NoStep, "regroup 0 1", "phrase (0 0)")

    def test_no_seam(self):
        for at in (3, 4, 40):
            self.check(NoSeam, f"look {at}", PHRASE)
        self.check(NoSeam, "look 0", "phrase 0")

    def test_no_number(self):
        for name in ("form", "classes", "size"):
            self.check(NoNumber, name + " 0", PHRASE)
            self.check(NoNumber, name + " 0", "phrase 0")

    def test_too_many(self):
        for shape in (left_comb(10), right_comb(10), zigzag(10)):
            error = self.check(TooMany, "sayings", "phrase " + phrase_text(((0,),) * 10, shape))
            self.assertEqual(error.most, 9)
        desk = desk_with("phrase " + phrase_text(((2,),) * 9, zigzag(9)))
        self.assertEqual(desk.tell("sayings"), "1")

    def test_nothing_done(self):
        self.check(NothingDone, "undo")
        self.check(NothingDone, "undo", "phrase 0", "undo")

    def test_what_is_due_first(self):
        self.check(NoLine, "phrase 3\n")
        self.check(NoLine, "form 0 ")
        self.check(NoText, "number 3")
        self.check(NoText, "number 3", PHRASE)
        self.check(NoText, "alike (0", PHRASE)
        self.check(NothingKept, "number 0")
        self.check(NothingKept, "form 0")
        self.check(NothingKept, "regroup 5 5")

    def test_a_word_of_two_hundred_sounds(self):
        desk = desk_with("phrase (" + "2" * 200 + " 0)")
        self.assertEqual(desk.tell("say"), "2" * 200 + "0")
        self.assertEqual(desk.tell("alike " + "2" * 200), "no")
        self.assertIs(error_kind(desk.tell, "alike " + "2" * 201), NoText)


if __name__ == "__main__":
    unittest.main()
