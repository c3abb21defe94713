"""[5]: the errors."""

import copy
import inspect
import unittest

from heardseams import errors
from heardseams.errors import NoBook, SeamError, TooLong, TooMany
from tests.helper import odd_things

WITHOUT_FIELDS = (
    "NoShape", "NoNumber", "NoSeam", "NoPart", "NoStep", "NoLengths", "OtherBook", "NoWords", "NoRow", "NoTable",
    "NoShapes", "NoList", "NoBallot", "NoLeaning", "NoSpot", "NoOrder", "NoChoices", "NoSide", "NothingLeft",
    "NoText", "NoLine", "NothingKept", "OtherWords", "NothingDone",
)
WITH_FIELDS = (("NoBook", "part"), ("TooMany", "most"), ("TooLong", "most"))
NAMES = WITHOUT_FIELDS + tuple(name for name, _ in WITH_FIELDS)


class Bases(unittest.TestCase):
    def test_the_base_is_a_value_error(self):
        self.assertEqual(SeamError.__bases__, (ValueError,))

    def test_every_other_error_is_a_direct_subclass(self):
        for name in NAMES:
            self.assertEqual(getattr(errors, name).__bases__, (SeamError,), name)

    def test_none_is_a_subclass_of_another_one(self):
        for name in NAMES:
            for other in NAMES:
                if name != other:
                    self.assertFalse(issubclass(getattr(errors, name), getattr(errors, other)), (name, other))

    def test_there_are_just_these(self):
        found = [name for name, _ in inspect.getmembers(errors, inspect.isclass)]
        self.assertEqual(sorted(found), sorted(NAMES + ("SeamError",)))

    def test_each_has_its_name(self):
        for name in NAMES + ("SeamError",):
            self.assertEqual(getattr(errors, name).__name__, name)


class Made(unittest.TestCase):
    def test_without_arguments(self):
        for name in WITHOUT_FIELDS + ("SeamError",):
            made = getattr(errors, name)()
            self.assertIsInstance(made, SeamError)
            self.assertIsInstance(made, ValueError)
            self.assertIsInstance(str(made), str)

    def test_the_field_is_the_value_itself(self):
        values = odd_things() + ["table", 40, 10 ** 5000, [1, [2]], {"a": [1]}]
        for name, field in WITH_FIELDS:
            for value in values:
                made = getattr(errors, name)(value)
                self.assertIs(getattr(made, field), value)
                self.assertEqual(list(vars(made)), [field])

    def test_a_list_in_an_error_follows_what_is_done_to_it(self):
        for name, field in WITH_FIELDS:
            value = [1]
            made = getattr(errors, name)(value)
            value.append(2)
            self.assertEqual(getattr(made, field), [1, 2])

    def test_a_message_can_be_had_whatever_the_value(self):
        for kind in (NoBook, TooMany, TooLong):
            for value in odd_things() + [10 ** 5000]:
                self.assertIsInstance(str(kind(value)), str)

    def test_the_value_is_needed_and_the_only_argument(self):
        for kind in (NoBook, TooMany, TooLong):
            self.assertRaises(TypeError, kind)
            self.assertRaises(TypeError, kind, 1, 2)

    def test_two_errors_of_a_kind_keep_their_own_values(self):
        one, other = TooMany(40), TooMany(9)
        self.assertEqual((one.most, other.most), (40, 9))

    def test_a_copy_keeps_the_value(self):
        self.assertEqual(copy.copy(NoBook("ahead")).part, "ahead")

    def test_each_is_caught_by_its_own_name_and_by_the_base(self):
        for name in WITHOUT_FIELDS:
            kind = getattr(errors, name)
            for caught in (kind, SeamError, ValueError):
                with self.assertRaises(caught):
                    raise kind()


if __name__ == "__main__":
    unittest.main()
