"""Point 4 and nextwork/quotients.py."""

import random
import unittest
from fractions import Fraction
from math import gcd

from nextwork.quotients import compare, fraction, is_fraction, plus, times
from nextwork.wrongs import NoFraction
from samples import (
    FRACTIONS, GREAT, NOT_FRACTIONS, NOT_INTEGERS, NOT_LOWEST, NOT_PAIRS, OTHER_GREAT, PlainCase, deep,
)

WHOLE = [
    0, 1, -1, 2, -2, 3, -3, 4, 6, -6, 9, 10, -15, 100, 360, -361,
    2 ** 64, -2 ** 64, GREAT, -GREAT, GREAT * 12, OTHER_GREAT, -OTHER_GREAT * 6, GREAT * OTHER_GREAT,
]


def drawn_fractions():
    """Fractions with bottoms of one to three hundred digits, the same in each run."""
    draw = random.Random(4)
    found = []
    for digits in (1, 2, 5, 20, 100, 300):
        for _ in range(6):
            value = Fraction(draw.randint(-10 ** digits, 10 ** digits), draw.randint(1, 10 ** digits))
            found.append((value.numerator, value.denominator))
    return found


class Example(unittest.TestCase):
    def test_of_the_document(self):
        self.assertEqual(
            [
                fraction(4, -6), fraction(0, 5), plus((1, 2), (1, 3)), times((2, 3), (3, 4)),
                compare((1, 2), (2, 3)), is_fraction((2, 4)),
            ],
            [(-2, 3), (0, 1), (5, 6), (1, 2), -1, False],
        )


class IsFraction(PlainCase):
    def test_fractions_are(self):
        for value in FRACTIONS + drawn_fractions():
            self.tells(True, is_fraction, value)

    def test_other_kinds_and_lengths_are_not(self):
        for value in NOT_PAIRS:
            self.tells(False, is_fraction, value)

    def test_common_divisors_and_low_bottoms_are_not(self):
        for value in NOT_LOWEST:
            self.tells(False, is_fraction, value)

    def test_every_small_pair(self):
        for top in range(-13, 14):
            for bottom in range(-13, 14):
                shared = [d for d in range(2, 14) if top % d == 0 and bottom % d == 0]
                self.tells(bottom >= 1 and shared == [], is_fraction, (top, bottom))

    def test_great_common_divisors(self):
        for by in (2, 3, 10 ** 200 + 1, GREAT):
            for top, bottom in FRACTIONS:
                self.tells(False, is_fraction, (top * by, bottom * by))
                self.tells(False, is_fraction, (top * -by, bottom * -by))

    def test_lists_of_good_entries_are_not(self):
        for value in FRACTIONS:
            self.tells(False, is_fraction, list(value))
            self.tells(False, is_fraction, value + (1,))
            self.tells(False, is_fraction, value[:1])
            self.tells(False, is_fraction, (value,))

    def test_a_wrong_entry_on_either_side(self):
        for entry in NOT_INTEGERS:
            for good in (0, 1, -1, 5, GREAT):
                self.tells(False, is_fraction, (entry, good))
                self.tells(False, is_fraction, (good, entry))

    def test_deep_and_long_values(self):
        self.assertIs(is_fraction(deep(50000)), False)
        self.assertIs(is_fraction((deep(50000), 1)), False)
        self.assertIs(is_fraction((1,) * 100000), False)


class FractionCase(PlainCase):
    def check_form(self, made):
        self.assertIs(type(made), tuple)
        self.assertEqual([type(entry) for entry in made], [int, int])
        self.assertGreaterEqual(made[1], 1)
        self.assertEqual(gcd(made[0], made[1]), 1)


class MakesFraction(FractionCase):
    def check(self, top, bottom):
        made = self.call(fraction, top, bottom)
        self.check_form(made)
        self.assertEqual(made[0] * bottom, made[1] * top)
        self.tells(True, is_fraction, made)

    def test_every_pair_of_whole_numbers(self):
        for top in WHOLE:
            for bottom in WHOLE:
                if bottom != 0:
                    with self.subTest(top=top, bottom=bottom):
                        self.check(top, bottom)

    def test_every_small_pair(self):
        for top in range(-20, 21):
            for bottom in list(range(-20, 0)) + list(range(1, 21)):
                self.check(top, bottom)

    def test_zero_is_one_fraction(self):
        for bottom in WHOLE[1:]:
            self.assertEqual(self.call(fraction, 0, bottom), (0, 1))

    def test_each_value_is_one_fraction(self):
        for top, bottom in FRACTIONS:
            for by in (1, -1, 6, -35, GREAT, -OTHER_GREAT):
                self.assertEqual(self.call(fraction, top * by, bottom * by), (top, bottom))

    def test_a_bottom_of_zero(self):
        for top in WHOLE:
            self.refuses(NoFraction, fraction, top, 0)

    def test_what_is_no_integer_on_either_side(self):
        for value in NOT_INTEGERS:
            for good in (0, 1, -3, GREAT):
                self.refuses(NoFraction, fraction, value, good)
                self.refuses(NoFraction, fraction, good, value)
            for other in NOT_INTEGERS:
                self.refuses(NoFraction, fraction, value, other)


class Reckons(FractionCase):
    def pairs(self):
        values = FRACTIONS + drawn_fractions()
        return [(one, other) for one in values for other in values]

    def test_plus(self):
        for one, other in self.pairs():
            made = self.call(plus, one, other)
            self.check_form(made)
            whole = one[0] * other[1] + other[0] * one[1]
            self.assertEqual(made[0] * one[1] * other[1], made[1] * whole)

    def test_times(self):
        for one, other in self.pairs():
            made = self.call(times, one, other)
            self.check_form(made)
            self.assertEqual(made[0] * one[1] * other[1], made[1] * one[0] * other[0])

    def test_compare(self):
        for one, other in self.pairs():
            left = one[0] * other[1]
            right = other[0] * one[1]
            wanted = (left > right) - (left < right)
            told = self.call(compare, one, other)
            self.assertIs(type(told), int)
            self.assertEqual(told, wanted)
            self.assertEqual(self.call(compare, other, one), -wanted)

    def test_small_ones_written_out(self):
        self.assertEqual(plus((1, 2), (-1, 2)), (0, 1))
        self.assertEqual(plus((1, 6), (1, 3)), (1, 2))
        self.assertEqual(plus((-1, 2), (-1, 2)), (-1, 1))
        self.assertEqual(times((-2, 3), (3, 2)), (-1, 1))
        self.assertEqual(times((0, 1), (-7, 3)), (0, 1))
        self.assertEqual(times((-1, 2), (-1, 2)), (1, 4))
        self.assertEqual([compare((-1, 2), (-1, 3)), compare((0, 1), (0, 1)), compare((1, 2), (-5, 1))], [-1, 0, 1])

    def test_neighbours_are_told_apart(self):
        below = (GREAT - 1, GREAT)
        self.assertEqual(compare(below, (GREAT, GREAT + 1)), -1)
        self.assertEqual(compare(below, (1, 1)), -1)
        self.assertEqual(compare((1, GREAT), (0, 1)), 1)
        self.assertEqual(plus(below, (1, GREAT)), (1, 1))

    def test_what_is_no_fraction_first_or_second(self):
        for function in (plus, times, compare):
            for value in NOT_FRACTIONS:
                for good in ((0, 1), (1, 2), (-GREAT, 3)):
                    self.refuses(NoFraction, function, value, good)
                    self.refuses(NoFraction, function, good, value)
                self.refuses(NoFraction, function, value, value)

    def test_a_refusal_leaves_nothing_behind(self):
        for function, wanted in ((plus, (5, 6)), (times, (1, 6)), (compare, 1)):
            self.refuses(NoFraction, function, (1, 2), (2, 4))
            self.refuses(NoFraction, function, [1, 2], (1, 3))
            self.assertEqual(function((1, 2), (1, 3)), wanted)


if __name__ == "__main__":
    unittest.main()
