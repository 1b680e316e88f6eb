"""The errors of nextwork/wrongs.py."""

import unittest

from nextwork import wrongs
from nextwork.wrongs import NoMark, NoMove, TooMany, WorkError

OF_A_TEXT = [
    "NoFraction", "NoWork", "NoShare", "NoState", "NoStates", "NoCompany", "NoStanding", "NoChoice",
    "NoPlan", "NoRule", "NoPrice", "NoChoices", "NoNumbers", "NoRecord",
]
OF_A_VALUE = {"NoMove": "state", "NoMark": "number", "TooMany": "limit"}
ALL = OF_A_TEXT + list(OF_A_VALUE)

ANY_VALUES = [
    0, 1, -1, 12, 60, 10 ** 400, True, False, None, "", "a text", (), (1, 2), [], [1, [2]],
    ((0, 1), "x", None), [[True]],
]


def class_called(name):
    return getattr(wrongs, name)


def made(name):
    return class_called(name)("a text")


class Errors(unittest.TestCase):
    def test_all_stand_right_under_work_error(self):
        self.assertEqual(WorkError.__bases__, (ValueError,))
        for name in ALL:
            with self.subTest(name):
                self.assertEqual(class_called(name).__bases__, (WorkError,))
                self.assertEqual(class_called(name).__name__, name)
                self.assertEqual(class_called(name).__module__, "nextwork.wrongs")

    def test_each_is_caught_as_itself_and_as_the_two_above(self):
        for name in ALL:
            for above in (class_called(name), WorkError, ValueError):
                with self.subTest(name, above=above):
                    with self.assertRaises(above):
                        raise made(name)

    def test_each_is_of_no_other_class(self):
        for name in ALL:
            for other in ALL:
                with self.subTest(name, other=other):
                    self.assertEqual(isinstance(made(name), class_called(other)), name == other)

    def test_work_error_is_none_of_them(self):
        for name in ALL:
            self.assertNotIsInstance(WorkError("a text"), class_called(name))

    def test_those_of_a_text_tell_it(self):
        for name in ["WorkError"] + OF_A_TEXT:
            for text in ("", "a text", "two\nlines"):
                self.assertEqual(str(class_called(name)(text)), text)

    def test_those_of_a_value_keep_it(self):
        for name, field in OF_A_VALUE.items():
            for value in ANY_VALUES:
                with self.subTest(name, value=value):
                    error = class_called(name)(value)
                    self.assertIs(getattr(error, field), value)
                    self.assertEqual(list(vars(error)), [field])

    def test_two_of_a_class_keep_each_their_own(self):
        for name, field in OF_A_VALUE.items():
            one = class_called(name)(1)
            other = class_called(name)("other")
            self.assertEqual([getattr(one, field), getattr(other, field)], [1, "other"])

    def test_those_of_a_value_are_made_of_just_one(self):
        for kind in (NoMove, NoMark, TooMany):
            with self.assertRaises(TypeError):
                kind()
            with self.assertRaises(TypeError):
                kind(1, 2)

    def test_making_one_changes_nothing_of_the_value(self):
        for kind in (NoMove, NoMark, TooMany):
            value = [1, [2, 3]]
            kind(value)
            self.assertEqual(value, [1, [2, 3]])


if __name__ == "__main__":
    unittest.main()
