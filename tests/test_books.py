"""[9]: books and their parts, rules, functions of strangers, books one behind another and mirrored."""

import itertools
import random
import unittest

from heardseams.books import Book, by_function, from_rules, mirrored, one_behind_another
from heardseams.errors import NoBook, OtherBook, SeamError, TooMany
from heardseams.saying import met, said
from tests.helper import (
    all_rows_by_hand, error_kind, full_book, meet_by_hand, no_integers, odd_things, raised, random_book, random_row,
    random_table, say_by_hand, shape_of, trees,
)

SWAP = {((0,), (1,)): ((1,), (0,)), ((1,), (0,)): ((1,), (0,)), ((0, 1), (1,)): ((0, 0), (0,))}
SIZES = [thing for thing in no_integers()] + [0, -1, 10 ** 40, -10 ** 40]


def parts(book):
    return book.sounds(), book.ahead(), book.behind(), book.table()


def part_refused(function, *arguments):
    """The part that NoBook tells, or the error if it is another one."""
    error = raised(function, *arguments)
    return error.part if error.__class__ is NoBook else error


def all_pairs(sounds, ahead, behind):
    return itertools.product(all_rows_by_hand(sounds, ahead), all_rows_by_hand(sounds, behind))


class Parts(unittest.TestCase):
    def test_parts_are_told_back(self):
        book = Book(2, 2, 1, SWAP)
        self.assertEqual((book.sounds(), book.ahead(), book.behind(), book.reach()), (2, 2, 1, 3))
        self.assertEqual(book.table(), {((0,), (1,)): ((1,), (0,)), ((0, 1), (1,)): ((0, 0), (0,))})

    def test_entries_that_change_nothing_are_left_out(self):
        self.assertEqual(Book(8, 4, 4, {((7,) * 4, (0,)): ((7,) * 4, (0,))}).table(), {})
        self.assertEqual(Book(1, 1, 1, {}).table(), {})
        self.assertEqual(Book(1, 1, 1, {((0,), (0,)): ((0,), (0,))}).table(), {})

    def test_random_tables(self):
        chance = random.Random(1)
        for _ in range(50):
            sounds, ahead, behind = chance.randint(1, 8), chance.randint(1, 4), chance.randint(1, 4)
            table = random_table(chance, sounds, ahead, behind, 60)
            book = Book(sounds, ahead, behind, table)
            told = {key: new for key, new in table.items() if key != new}
            self.assertEqual(parts(book), (sounds, ahead, behind, told))
            self.assertEqual(book.reach(), ahead + behind)
            self.assertEqual(Book(*parts(book)), book)

    def test_all_sizes(self):
        for sounds in range(1, 9):
            for ahead in range(1, 5):
                for behind in range(1, 5):
                    top = sounds - 1
                    key = ((top,) * ahead, (top,) * behind)
                    book = Book(sounds, ahead, behind, {key: ((0,) * ahead, (0,) * behind)})
                    self.assertEqual((book.sounds(), book.ahead(), book.behind()), (sounds, ahead, behind))
                    self.assertEqual(len(book.table()), 0 if sounds == 1 else 1)

    def test_four_thousand_entries(self):
        keys = [(left, right) for left in all_rows_by_hand(8, 3) for right in all_rows_by_hand(8, 1)]
        table = {key: (key[0][::-1], key[1]) for key in keys[:4000]}
        self.assertEqual(len(table), 4000)
        book = Book(8, 3, 1, table)
        self.assertEqual(book.table(), {key: new for key, new in table.items() if key != new})
        table[keys[4000]] = keys[4000]
        self.assertEqual(part_refused(Book, 8, 3, 1, table), "table")
        self.assertEqual(part_refused(Book, 8, 3, 1, {key: key for key in keys[:4001]}), "table")

    def test_values_are_of_plain_kinds(self):
        book = Book(2, 2, 1, SWAP)
        for number in (book.sounds(), book.ahead(), book.behind(), book.reach()):
            self.assertIs(number.__class__, int)
        self.assertIs(book.table().__class__, dict)


class Kept(unittest.TestCase):
    def test_a_dict_that_was_handed_in_may_be_changed_later(self):
        table = dict(SWAP)
        book = Book(2, 2, 1, table)
        kept = book.table()
        table[(1,), (1,)] = ((0,), (0,))
        del table[(0,), (1,)]
        self.assertEqual(book.table(), kept)
        table.clear()
        self.assertEqual(book.table(), kept)
        self.assertEqual(met(book, (0,), (1,)), (1, 0))

    def test_a_dict_that_was_told_may_be_changed(self):
        book = Book(2, 2, 1, SWAP)
        told = book.table()
        kept = dict(told)
        self.assertIsNot(told, book.table())
        told[(0,), (1,)] = ((0,), (0,))
        told[(1,), (1,)] = ((0,), (0,))
        self.assertEqual(book.table(), kept)
        told.clear()
        self.assertEqual(book.table(), kept)
        self.assertEqual(met(book, (0,), (1,)), (1, 0))
        self.assertEqual(book, Book(2, 2, 1, SWAP))

    def test_the_handed_dict_stays_as_it_is(self):
        table = dict(SWAP)
        Book(2, 2, 1, table)
        self.assertEqual(table, SWAP)
        wrong = {((0,), (1,)): None}
        error_kind(Book, 2, 2, 1, wrong)
        self.assertEqual(wrong, {((0,), (1,)): None})

    def test_an_empty_table_is_new_too(self):
        book = Book(1, 1, 1, {})
        book.table()[(0,), (0,)] = 1
        self.assertEqual(book.table(), {})


class Equal(unittest.TestCase):
    def check(self, one, other, equal):
        self.assertIs(one == other, equal)
        self.assertIs(one != other, not equal)
        self.assertIs(other == one, equal)
        self.assertIs(other != one, not equal)

    def test_equal_parts(self):
        self.check(Book(2, 2, 1, SWAP), Book(2, 2, 1, dict(reversed(SWAP.items()))), True)
        book = Book(2, 2, 1, SWAP)
        self.check(book, book, True)
        self.check(book, Book(2, 2, 1, book.table()), True)

    def test_entries_that_change_nothing_count_for_nothing(self):
        more = {**SWAP, ((1,), (1,)): ((1,), (1,))}
        self.check(Book(2, 2, 1, SWAP), Book(2, 2, 1, more), True)
        self.check(Book(2, 2, 1, {}), Book(2, 2, 1, {((1,), (1,)): ((1,), (1,))}), True)

    def test_unlike_parts(self):
        book = Book(2, 2, 1, SWAP)
        self.check(book, Book(3, 2, 1, SWAP), False)
        self.check(book, Book(2, 3, 1, SWAP), False)
        self.check(book, Book(2, 2, 2, SWAP), False)
        self.check(book, Book(2, 2, 1, {}), False)
        self.check(book, Book(2, 2, 1, {**SWAP, ((1,), (1,)): ((1,), (0,))}), False)
        self.check(book, Book(2, 2, 1, {**SWAP, ((0,), (1,)): ((1,), (1,))}), False)
        self.check(Book(1, 1, 2, {}), Book(1, 2, 1, {}), False)

    def test_other_values(self):
        book = Book(1, 1, 1, {})
        for thing in odd_things() + [parts(book), list(parts(book)), "book", book.table(), Book, 1.5, object()]:
            if not isinstance(thing, Book):
                self.check(book, thing, False)
        self.assertIs(book == (book,), False)
        self.assertIs([book] == [Book(1, 1, 1, {})], True)


class Refused(unittest.TestCase):
    def test_sizes(self):
        for thing in SIZES + [9]:
            self.assertEqual(part_refused(Book, thing, 1, 1, {}), "sounds")
        for thing in SIZES + [5]:
            self.assertEqual(part_refused(Book, 2, thing, 1, {}), "ahead")
            self.assertEqual(part_refused(Book, 2, 1, thing, {}), "behind")

    def test_the_first_of_two_wrong_parts_is_told(self):
        for thing in [thing for thing in SIZES if thing != {}] + [9]:
            self.assertEqual(part_refused(Book, thing, thing, 1, {}), "sounds")
            self.assertEqual(part_refused(Book, thing, 1, thing, {}), "sounds")
            self.assertEqual(part_refused(Book, thing, 1, 1, thing), "sounds")
            self.assertEqual(part_refused(Book, 2, thing, thing, {}), "ahead")
            self.assertEqual(part_refused(Book, 2, thing, 1, thing), "ahead")
            self.assertEqual(part_refused(Book, 2, 1, thing, thing), "behind")
            self.assertEqual(part_refused(Book, thing, thing, thing, thing), "sounds")

    def test_tables_that_are_no_dicts(self):
        for thing in odd_things() + [list(SWAP.items()), tuple(SWAP.items()), str(SWAP), Book(2, 2, 1, SWAP)]:
            if thing != {}:
                self.assertEqual(part_refused(Book, 2, 2, 1, thing), "table", thing)

    def test_wrong_keys(self):
        good = ((1,), (1,))
        keys = [thing for thing in odd_things() if not isinstance(thing, (bool, list, dict, Book))]
        keys = [thing for thing in keys if isinstance(thing, (int, str)) or thing is None or thing == ()] + [
            ((0,),), ((0,), (0,), (0,)), (0, 0), ((0,), 0), (0, (0,)), ((), (0,)), ((0,), ()), ((2,), (0,)),
            ((0,), (2,)), ((-1,), (0,)), ((0,), (-1,)), ((0, 0, 0), (0,)), ((0,), (0, 0)), ((None,), (0,)),
            ((0,), (None,)), (("0",), (0,)), ("0", "1"), ("01", (0,)), ((0,), ((0,),)), ((10 ** 40,), (0,)),
            (((0,), (0,)), (0,)), (None, None),
        ]
        for key in keys:
            self.assertEqual(part_refused(Book, 2, 2, 1, {key: good}), "table", key)
            self.assertEqual(part_refused(Book, 2, 2, 1, {key: key}), "table", key)
            self.assertEqual(part_refused(Book, 2, 2, 1, {((0,), (0,)): good, key: good}), "table", key)

    def test_wrong_values(self):
        values = odd_things() + [
            [(0,), (0,)], ((0,), [0]), ([0], (0,)), ((0,), (0,), (0,)), ((0,),), ((), (0,)), ((0,), ()),
            ((2,), (0,)), ((0,), (2,)), ((-1,), (0,)), ((0,), (-1,)), ((True,), (0,)), ((0,), (False,)),
            ((None,), (0,)), ((0,), (None,)), ("0", "0"), ((0, 0), (0,)), ((0,), (0, 0)), ((0, 0), (0, 0)),
            ((0,), ((0,),)), (0, 0), {0: 0}, ((10 ** 40,), (0,)),
        ]
        for value in values:
            self.assertEqual(part_refused(Book, 2, 2, 2, {((0,), (0,)): value}), "table", value)
            table = {((1,), (1,)): ((0,), (0,)), ((0,), (0,)): value}
            self.assertEqual(part_refused(Book, 2, 2, 2, table), "table", value)

    def test_values_of_other_lengths_than_the_key(self):
        for key, value in itertools.product(itertools.product((1, 2, 3), (1, 2, 3)), repeat=2):
            table = {((0,) * key[0], (0,) * key[1]): ((1,) * value[0], (1,) * value[1])}
            if key == value:
                self.assertEqual(Book(2, 3, 3, table).table(), table)
            else:
                self.assertEqual(part_refused(Book, 2, 3, 3, table), "table")

    def test_sounds_that_the_book_has_not(self):
        table = {((0,), (7,)): ((7,), (0,))}
        self.assertEqual(Book(8, 1, 1, table).table(), table)
        for sounds in range(1, 8):
            self.assertEqual(part_refused(Book, sounds, 1, 1, table), "table")

    def test_rows_longer_than_the_book_looks(self):
        table = {((0, 0, 0), (0, 0)): ((1, 0, 0), (0, 0))}
        self.assertEqual(Book(2, 3, 2, table).table(), table)
        for ahead, behind in ((2, 2), (3, 1), (2, 4), (1, 1)):
            self.assertEqual(part_refused(Book, 2, ahead, behind, table), "table")


def by_rules(sounds, ahead, behind, rules):
    """The table of rules told by hand: each rule tried at each pair of rows."""
    table = {}
    for left, right in all_pairs(sounds, ahead, behind):
        for lefts, rights, new_left, new_right in rules:
            if len(lefts) > len(left) or len(rights) > len(right):
                continue
            start = len(left) - len(lefts)
            whole, lots, new = left + right, lefts + rights, new_left + new_right
            if all(whole[start + at] in lots[at] for at in range(len(lots))):
                put = list(whole)
                for at, sound in enumerate(new):
                    if sound is not None:
                        put[start + at] = sound
                found = (tuple(put[:len(left)]), tuple(put[len(left):]))
                if found != (left, right):
                    table[left, right] = found
                break
    return table


def random_rule(chance, sounds, ahead, behind):
    def lots(most):
        many = chance.randint(1, most)
        return tuple(
            tuple(sorted(chance.sample(range(sounds), chance.randint(0 if at else 1, sounds)))) for at in range(many)
        )

    lefts, rights = lots(ahead), lots(behind)
    new = [tuple(chance.choice([None] + list(range(sounds))) for _ in side) for side in (lefts, rights)]
    return (lefts, rights, new[0], new[1])


class FromRules(unittest.TestCase):
    def test_the_first_rule_that_fits(self):
        rules = ((((0,),), ((0, 1),), (1,), (None,)), (((0, 1),), ((0,),), (0,), (1,)))
        self.assertEqual(from_rules(2, 1, 1, rules).table(), {
            ((0,), (0,)): ((1,), (0,)), ((0,), (1,)): ((1,), (1,)), ((1,), (0,)): ((0,), (1,)),
        })
        self.assertEqual(from_rules(2, 1, 1, rules[::-1]).table(), {
            ((0,), (0,)): ((0,), (1,)), ((0,), (1,)): ((1,), (1,)), ((1,), (0,)): ((0,), (1,)),
        })

    def test_the_first_rule_that_fits_may_change_nothing(self):
        rules = ((((1,),), ((1,),), (None,), (None,)), (((0, 1),), ((0, 1),), (0,), (0,)))
        self.assertEqual(from_rules(2, 1, 1, rules).table(), {
            ((0,), (1,)): ((0,), (0,)), ((1,), (0,)): ((0,), (0,)),
        })

    def test_the_last_sounds_ahead_and_the_first_ones_behind(self):
        rules = ((((0,), (1,)), ((0,),), (2, None), (1,)),)
        book = from_rules(3, 3, 2, rules)
        self.assertEqual(met(book, (2, 0, 0, 1), (0, 2, 1)), (2, 0, 2, 1, 1, 2, 1))
        self.assertEqual(met(book, (0, 1), (0,)), (2, 1, 1))
        self.assertEqual(met(book, (1,), (0,)), (1, 0))
        self.assertEqual(met(book, (0, 1, 1), (0,)), (0, 1, 1, 0))
        self.assertEqual(met(book, (0, 1), (2, 0)), (0, 1, 2, 0))

    def test_longer_lots_than_a_phrase_has(self):
        rules = ((((0, 1),) * 3, ((0, 1),) * 2, (1, 1, 1), (1, 1)), (((0,),), ((0,),), (1,), (0,)))
        book = from_rules(2, 3, 2, rules)
        self.assertEqual(met(book, (0, 0), (0, 0)), (0, 1, 0, 0))
        self.assertEqual(met(book, (0, 0, 0), (0,)), (0, 0, 1, 0))
        self.assertEqual(met(book, (0, 0, 0), (0, 0)), (1, 1, 1, 1, 1))

    def test_no_rules_and_lots_without_sounds(self):
        self.assertEqual(from_rules(8, 2, 2, ()), Book(8, 2, 2, {}))
        self.assertEqual(from_rules(2, 1, 1, ((((),), ((0, 1),), (0,), (0,)),)), Book(2, 1, 1, {}))

    def test_against_rules_tried_by_hand(self):
        chance = random.Random(2)
        for _ in range(60):
            sounds, ahead, behind = chance.choice(((1, 4, 4), (2, 2, 3), (2, 3, 3), (3, 2, 2), (8, 1, 1), (4, 3, 1)))
            rules = tuple(random_rule(chance, sounds, ahead, behind) for _ in range(chance.randint(1, 6)))
            book = from_rules(sounds, ahead, behind, rules)
            self.assertEqual(parts(book), (sounds, ahead, behind, by_rules(sounds, ahead, behind, rules)))

    def test_more_entries_than_a_table_may_have(self):
        rules = ((((0, 1, 2, 3, 4, 5, 6, 7),), ((0, 1, 2, 3, 4, 5, 6, 7),), (0,), (0,)),)
        book = from_rules(8, 2, 2, rules)
        self.assertEqual(len(book.table()), 72 * 72 - 9 * 9)
        self.assertEqual(met(book, (1, 2, 3), (4, 5, 6)), (1, 2, 0, 0, 5, 6))

    def test_forty_rules(self):
        rule = (((0,),), ((0,),), (1,), (1,))
        self.assertEqual(from_rules(2, 1, 1, (rule,) * 40).table(), {((0,), (0,)): ((1,), (1,))})
        self.assertEqual(part_refused(from_rules, 2, 1, 1, (rule,) * 41), "table")

    def test_sizes(self):
        for thing in SIZES + [9]:
            self.assertEqual(part_refused(from_rules, thing, None, None, None), "sounds")
            self.assertEqual(part_refused(from_rules, thing, 1, 1, ()), "sounds")
        for thing in SIZES + [5]:
            self.assertEqual(part_refused(from_rules, 2, thing, None, None), "ahead")
            self.assertEqual(part_refused(from_rules, 2, 1, thing, None), "behind")
            self.assertEqual(part_refused(from_rules, 2, 1, thing, ()), "behind")

    def test_rules_that_are_none(self):
        rule = (((0,), (0, 1)), ((1,),), (None, 1), (0,))
        self.assertEqual(from_rules(2, 2, 1, (rule,)).__class__, Book)
        for thing in (rule, [rule], {0: rule}, (list(rule),)):
            self.assertEqual(part_refused(from_rules, 2, 2, 1, thing), "table", thing)
        for thing in odd_things() + [[rule], (rule,), {0: rule}, list(rule), (rule, None), (rule, [])]:
            if thing != () and thing != (rule,):
                self.assertEqual(part_refused(from_rules, 2, 2, 1, thing), "table", thing)
                self.assertEqual(part_refused(from_rules, 2, 2, 1, (thing,)), "table", thing)
                self.assertEqual(part_refused(from_rules, 2, 2, 1, (rule, thing)), "table", thing)
        self.assertEqual(part_refused(from_rules, 2, 2, 1, ((),)), "table")
        self.assertEqual(part_refused(from_rules, 2, 2, 1, ((rule,),)), "table")

    def test_rules_with_wrong_parts(self):
        rule = (((0,), (0, 1)), ((1,),), (None, 1), (0,))
        lots = [
            (), [(0,)], (0,), ([0],), ((1, 0),), ((0, 0),), ((0, 1, 1),), ((2,),), ((-1,),), ((True,),), ((None,),),
            ("0",), (("0",),), ((0,), None), ((0,), (0,), (0,)), None, "0", {},
        ]
        news = [(), [0], (2,), (-1,), (True,), ("0",), ((0,),), (0, 0, 0), None, "0", ("None",), ([],), {}]
        for wrong in lots:
            self.assertEqual(part_refused(from_rules, 2, 2, 1, ((wrong,) + rule[1:],)), "table", wrong)
            self.assertEqual(part_refused(from_rules, 2, 2, 1, ((rule[0], wrong) + rule[2:],)), "table", wrong)
        for wrong in news + [(0,), (None,)]:
            self.assertEqual(part_refused(from_rules, 2, 2, 1, (rule[:2] + (wrong, rule[3]),)), "table", wrong)
        for wrong in news + [(0, 1), (None, None)]:
            self.assertEqual(part_refused(from_rules, 2, 2, 1, (rule[:3] + (wrong,),)), "table", wrong)
        for wrong in (rule[:3], rule + ((0,),)):
            self.assertEqual(part_refused(from_rules, 2, 2, 1, (wrong,)), "table", wrong)
        for wrong in ((None, 2), (0, True), ([], None), (0, "0"), (2, 0)):
            self.assertEqual(part_refused(from_rules, 2, 2, 1, (rule[:2] + (wrong, rule[3]),)), "table", wrong)
        self.assertEqual(part_refused(from_rules, 2, 2, 1, (((), ((0,),), (), (0,)),)), "table")
        self.assertEqual(part_refused(from_rules, 2, 2, 1, ((((0,),), (), (0,), ()),)), "table")
        self.assertEqual(part_refused(from_rules, 2, 2, 1, ((((0,),) * 3, ((0,),), (0,) * 3, (0,)),)), "table")
        self.assertEqual(part_refused(from_rules, 2, 2, 1, ((((0,),), ((0,),) * 2, (0,), (0,) * 2),)), "table")

    def test_too_many_pairs(self):
        for sizes in ((8, 4, 1), (8, 1, 4), (8, 3, 2), (5, 3, 3), (4, 4, 4), (8, 4, 4), (7, 3, 2)):
            error = raised(from_rules, *sizes, ())
            self.assertIs(error.__class__, TooMany)
            self.assertEqual(error.most, 20000)
            self.assertEqual(part_refused(from_rules, *sizes, None), "table")
            self.assertEqual(part_refused(from_rules, *sizes, (None,)), "table")
        for sizes in ((6, 3, 2), (8, 3, 1), (1, 4, 4), (2, 4, 4), (4, 3, 3), (7, 4, 1), (7, 1, 4)):
            self.assertEqual(from_rules(*sizes, ()), Book(*sizes, {}))


class ByFunction(unittest.TestCase):
    def test_against_a_table_told_by_hand(self):
        chance = random.Random(3)
        for sizes in ((1, 4, 4), (2, 2, 3), (3, 2, 1), (8, 1, 1)):
            book = full_book(chance, *sizes)
            table = book.table()
            made = by_function(*sizes, lambda left, right: table.get((left, right), (left, right)))
            self.assertEqual(made, book)
            self.assertEqual(parts(made), parts(book))

    def test_it_is_asked_for_each_pair_of_rows(self):
        asked = []

        def ask(left, right):
            asked.append((left, right))
            return left, right

        self.assertEqual(by_function(2, 2, 3, ask), Book(2, 2, 3, {}))
        self.assertEqual(sorted(asked), sorted(all_pairs(2, 2, 3)))
        for left, right in asked:
            self.assertIs(left.__class__, tuple)
            self.assertIs(right.__class__, tuple)

    def test_more_entries_than_a_table_may_have(self):
        book = by_function(8, 2, 2, lambda left, right: ((0,) * len(left), (0,) * len(right)))
        self.assertEqual(len(book.table()), 72 * 72 - 4)
        self.assertEqual(met(book, (1, 2, 3), (4, 5, 6)), (1, 0, 0, 0, 0, 6))

    def test_wrong_answers(self):
        answers = odd_things() + [
            [(0,), (0,)], ([0], (0,)), ((0,), [0]), ((0,), (0,), (0,)), ((0, 0), (0,)), ((0,), (0, 0)), ((), (0,)),
            ((0,), ()), ((2,), (0,)), ((0,), (-1,)), ((True,), (0,)), ((0,), (False,)), ("0", "0"), ((None,), (0,)),
            {0: 0}, ((0.0,), (0,)), ((0,), (1.0,)), 1.5, object(), b"00", len, iter(((0,), (0,))), {1, 2},
        ]
        for answer in answers:
            self.assertEqual(part_refused(by_function, 2, 1, 1, lambda left, right: answer), "table", answer)

    def test_one_wrong_answer_is_enough(self):
        for wrong in all_pairs(2, 2, 2):
            def answer(left, right):
                return None if (left, right) == wrong else (left, right)

            self.assertEqual(part_refused(by_function, 2, 2, 2, answer), "table", wrong)

    def test_answers_of_other_lengths_at_longer_rows(self):
        self.assertEqual(part_refused(by_function, 2, 2, 2, lambda left, right: (left[-1:], right)), "table")
        self.assertEqual(part_refused(by_function, 2, 2, 2, lambda left, right: (left, right[:1])), "table")
        self.assertEqual(part_refused(by_function, 2, 2, 2, lambda left, right: (right, left)), "table")

    def test_errors_go_on(self):
        class Own(Exception):
            pass

        for error in (Own("x"), KeyError(1), ValueError(), TypeError(), StopIteration(), NoBook("sounds"),
                      SeamError(), TooMany(1), IndexError(), ZeroDivisionError(), RecursionError(), AttributeError()):
            for at in (1, 2, 4):
                calls = []

                def fail(left, right):
                    calls.append(1)
                    if len(calls) == at:
                        raise error
                    return left, right

                self.assertIs(raised(by_function, 2, 1, 1, fail), error)
                self.assertEqual(len(calls), at)

    def test_what_it_keeps_and_changes_is_its_own(self):
        kept = {((0,), (0,)): ((1,), (1,))}
        book = by_function(2, 1, 1, lambda left, right: kept.setdefault((left, right), (left, right)))
        self.assertEqual(book.table(), {((0,), (0,)): ((1,), (1,))})
        kept.clear()
        self.assertEqual(book.table(), {((0,), (0,)): ((1,), (1,))})

    def test_it_may_make_books_itself(self):
        def ask(left, right):
            inner = by_function(2, 1, 1, lambda one, other: (other, one))
            return inner.table().get((left, right), (left, right))

        self.assertEqual(by_function(2, 1, 1, ask), by_function(2, 1, 1, lambda one, other: (other, one)))

    def test_equal_answers_give_equal_books(self):
        def ask(left, right):
            return (left[::-1], right[::-1])

        self.assertEqual(by_function(3, 2, 2, ask), by_function(3, 2, 2, ask))

    def test_sizes_and_too_many_ahead_of_any_call(self):
        calls = []

        def ask(left, right):
            calls.append(1)
            return left, right

        for thing in SIZES + [9]:
            self.assertEqual(part_refused(by_function, thing, None, None, ask), "sounds")
        for thing in SIZES + [5]:
            self.assertEqual(part_refused(by_function, 2, thing, None, ask), "ahead")
            self.assertEqual(part_refused(by_function, 8, 4, thing, ask), "behind")
        for sizes in ((8, 4, 1), (8, 1, 4), (8, 3, 2), (4, 4, 4), (8, 4, 4)):
            error = raised(by_function, *sizes, ask)
            self.assertIs(error.__class__, TooMany)
            self.assertEqual(error.most, 20000)
        self.assertEqual(calls, [])

    def test_as_many_pairs_as_may_be(self):
        # 19600 pairs, then 22344: no sizes are nearer to 20000.
        self.assertEqual(by_function(7, 4, 1, lambda left, right: (left, right)), Book(7, 4, 1, {}))
        self.assertIs(error_kind(by_function, 7, 3, 2, lambda left, right: (left, right)), TooMany)


class OneBehindAnother(unittest.TestCase):
    def test_what_meets_is_changed_by_the_first_then_by_the_second(self):
        chance = random.Random(4)
        for _ in range(30):
            sizes = chance.choice(((1, 2, 2), (2, 2, 2), (3, 1, 2), (2, 3, 1)))
            one, other = random_book(chance, *sizes, 12), random_book(chance, *sizes, 12)
            both = one_behind_another(one, other)
            self.assertEqual(parts(both)[:3], sizes)
            for left, right in all_pairs(*sizes):
                middle = one.table().get((left, right), (left, right))
                end = other.table().get(middle, middle)
                self.assertEqual(both.table().get((left, right), (left, right)), end)
                self.assertEqual(met(both, left, right), end[0] + end[1])

    def test_the_order_of_the_two_counts(self):
        one = Book(3, 1, 1, {((0,), (0,)): ((1,), (1,))})
        other = Book(3, 1, 1, {((1,), (1,)): ((2,), (2,))})
        self.assertEqual(one_behind_another(one, other).table(), {
            ((0,), (0,)): ((2,), (2,)), ((1,), (1,)): ((2,), (2,)),
        })
        self.assertEqual(one_behind_another(other, one).table(), {
            ((0,), (0,)): ((1,), (1,)), ((1,), (1,)): ((2,), (2,)),
        })

    def test_what_is_turned_back_leaves_no_entry(self):
        swap = by_function(2, 2, 2, lambda left, right: (left[::-1], right[::-1]))
        self.assertEqual(one_behind_another(swap, swap), Book(2, 2, 2, {}))
        self.assertEqual(one_behind_another(swap, swap).table(), {})

    def test_a_book_that_changes_nothing(self):
        book = Book(2, 2, 1, SWAP)
        still = Book(2, 2, 1, {})
        self.assertEqual(one_behind_another(book, still), book)
        self.assertEqual(one_behind_another(still, book), book)

    def test_great_books_with_more_entries_than_a_table_may_have(self):
        rows = all_rows_by_hand(8, 4)[-4000:]
        one = Book(8, 4, 4, {(row, (0,)): (row, (1,)) for row in rows})
        other = Book(8, 4, 4, {((0,), row): ((1,), row) for row in rows})
        both = one_behind_another(one, other)
        self.assertEqual(len(both.table()), 8000)
        self.assertEqual(both, one_behind_another(other, one))
        third = Book(8, 4, 4, {(row, (1,)): (row, (2,)) for row in rows})
        self.assertEqual(len(one_behind_another(both, third).table()), 12000)

    def test_neither_is_changed(self):
        one, other = Book(2, 1, 1, {((0,), (0,)): ((1,), (1,))}), Book(2, 1, 1, {((1,), (1,)): ((0,), (0,))})
        kept = parts(one), parts(other)
        one_behind_another(one, other)
        mirrored(one)
        self.assertEqual((parts(one), parts(other)), kept)

    def test_other_books(self):
        book = Book(2, 2, 1, SWAP)
        for sizes in ((3, 2, 1), (1, 2, 1), (2, 1, 1), (2, 3, 1), (2, 2, 2), (2, 1, 2)):
            self.assertIs(error_kind(one_behind_another, book, Book(*sizes, {})), OtherBook)
            self.assertIs(error_kind(one_behind_another, Book(*sizes, {}), book), OtherBook)
        for thing in odd_things() + [parts(book), SWAP]:
            self.assertIs(error_kind(one_behind_another, book, thing), OtherBook)


class Mirrored(unittest.TestCase):
    def test_parts(self):
        book = Book(3, 2, 1, {((0, 1), (2,)): ((1, 1), (0,)), ((0,), (1,)): ((2,), (1,))})
        self.assertEqual(parts(mirrored(book)), (3, 1, 2, {
            ((2,), (1, 0)): ((0,), (1, 1)), ((1,), (0,)): ((1,), (2,)),
        }))

    def test_what_is_said_is_mirrored(self):
        chance = random.Random(5)
        for _ in range(20):
            book = random_book(chance, 2, chance.randint(1, 3), chance.randint(1, 3), 60)
            turned = mirrored(book)
            words = tuple(random_row(chance, 2, chance.randint(1, 4)) for _ in range(5))
            back = tuple(word[::-1] for word in words[::-1])
            for tree in trees(0, 4):
                shape = shape_of(tree)
                self.assertEqual(said(turned, back, shape[::-1]), said(book, words, shape)[::-1])
                self.assertEqual(said(book, words, shape), say_by_hand(book, words, tree))

    def test_rows_that_meet(self):
        chance = random.Random(6)
        for _ in range(200):
            book = random_book(chance, 3, chance.randint(1, 4), chance.randint(1, 4), 200)
            one, other = random_row(chance, 3, chance.randint(1, 6)), random_row(chance, 3, chance.randint(1, 6))
            self.assertEqual(met(mirrored(book), other[::-1], one[::-1]), meet_by_hand(book, one, other)[::-1])

    def test_twice_is_the_book_itself(self):
        chance = random.Random(7)
        for _ in range(20):
            book = random_book(chance, 8, chance.randint(1, 4), chance.randint(1, 4), 100)
            self.assertEqual(mirrored(mirrored(book)), book)

    def test_a_great_book(self):
        book = by_function(8, 2, 2, lambda left, right: ((0,) * len(left), (0,) * len(right)))
        self.assertEqual(mirrored(book), book)
        self.assertEqual(len(mirrored(book).table()), 72 * 72 - 4)


if __name__ == "__main__":
    unittest.main()
