"""Points 8 and 9, and nextwork/shown.py."""

import random
import unittest
from fractions import Fraction

from nextwork.numbers import numbers, states_above, states_not_less
from nextwork.shown import heights, is_ceiling, is_floor, pay_for
from nextwork.stopping import rate, spent
from nextwork.wrongs import NoFraction, NoShare, NoState, NoWork
from samples import (
    FRACTIONS, NOT_FRACTIONS, NOT_SHARES, NOT_WORKS, SHARES, PlainCase, chain, deep, drawn_works, exact,
    great_works, mean, not_sets, not_states, pair, ring, sets_of, small_works, with_pay, with_pays, work_of,
)

EXAMPLE = (
    ((0, 1), ((1, (1, 2)), (2, (1, 2)))), ((6, 1), ((1, (1, 1)),)), ((1, 1), ((2, (1, 1)),)),
)
ONE = (((7, 3), ((0, (1, 1)),)),)
LITTLE = Fraction(1, 10 ** 12)
OTHER_VALUES = [
    True, False, None, 0, 1, -1, "", "text", "0", [], [0], [(0, 1)], [[0, 1]], ((),), ((0,),), (None,), (True,),
]


def bounds_of(work, share):
    """The numbers, a little above and below them, pays, and far off."""
    found = [Fraction(0), Fraction(10 ** 40), Fraction(-10 ** 40)] + [exact(pay) for pay, _ in work]
    for number in numbers(work, share):
        found.extend([exact(number), exact(number) + LITTLE, exact(number) - LITTLE])
    return [pair(bound) for bound in sorted(set(found))]


def by_all_sets(work, share, bound):
    """The heights, by the words: over all sets, and 0."""
    found = []
    for state in range(len(work)):
        told = [spent(work, share, state, states) for states in sets_of(len(work))]
        most = max(exact(pay) - exact(bound) * exact(steps) for pay, steps in told)
        found.append(pair(max(0, most)))
    return tuple(found)


def brought(work, share, state, bound, values):
    """What one step brings at the state."""
    pay, moves = work[state]
    return exact(pay) - exact(bound) + exact(share) * mean(moves, [exact(value) for value in values])


def by_the_words(work, share, state, bound, values):
    """Whether the fractions are a ceiling."""
    if len(values) != len(work) or any(exact(value) < 0 for value in values):
        return False
    steps = [brought(work, share, at, bound, values) for at in range(len(work))]
    return steps[state] <= 0 and all(step <= exact(value) for step, value in zip(steps, values))


class Example(unittest.TestCase):
    def test_of_the_document(self):
        share, two = (1, 2), (2, 1)
        self.assertEqual(
            [
                heights(EXAMPLE, share, two), is_floor(EXAMPLE, share, 0, two, (1,)),
                is_floor(EXAMPLE, share, 0, two, ()),
            ],
            [((0, 1), (8, 1), (0, 1)), True, False],
        )
        self.assertEqual(
            [
                is_ceiling(EXAMPLE, share, 0, two, ((0, 1), (8, 1), (0, 1))), pay_for(EXAMPLE, share, 0, two),
                pay_for(EXAMPLE, share, 0, (7, 1)),
            ],
            [True, (0, 1), (7, 1)],
        )


class Heights(PlainCase):
    def told(self, work, share, bound):
        answer = self.call(heights, work, share, bound)
        self.assertIs(type(answer), tuple)
        self.assertEqual(len(answer), len(work))
        for height in answer:
            self.is_a_fraction(height)
        return answer

    def check_words(self, work, share, bound):
        """Each height is what one step brings, or 0 where that is more; and 0 just where the number says so."""
        told = self.told(work, share, bound)
        for state, (height, number) in enumerate(zip(told, numbers(work, share))):
            self.assertEqual(exact(height), max(0, brought(work, share, state, bound, told)))
            self.assertEqual(height == (0, 1), exact(number) <= exact(bound))

    def test_over_all_sets(self):
        for many, pays in ((1, [2]), (2, [1, 4]), (2, [-2, -3])):
            for work in small_works(many, pays):
                for bound in bounds_of(work, (2, 3)):
                    self.assertEqual(self.told(work, (2, 3), bound), by_all_sets(work, (2, 3), bound))
        for work in small_works(3, [1, 4, -2])[::3]:
            for bound in ((1, 1), (2, 1), (0, 1)):
                self.assertEqual(self.told(work, (1, 2), bound), by_all_sets(work, (1, 2), bound))

    def test_over_all_sets_of_more_states(self):
        for work in drawn_works(8, (3, 4), 1):
            for bound in bounds_of(work, (4, 5)):
                self.assertEqual(self.told(work, (4, 5), bound), by_all_sets(work, (4, 5), bound))
        for work in drawn_works(80, (5, 6), 1):
            for bound in bounds_of(work, (4, 5))[3:7]:
                self.assertEqual(self.told(work, (4, 5), bound), by_all_sets(work, (4, 5), bound))

    def test_by_one_step(self):
        for work in drawn_works(81, (1, 2, 3, 4, 5, 6), 1):
            for share in SHARES:
                for bound in bounds_of(work, share):
                    self.check_words(work, share, bound)

    def test_great_and_tiny(self):
        for work in great_works():
            for share in ((1, 10 ** 30), (10 ** 30 - 1, 10 ** 30)):
                for bound in bounds_of(work, share)[::4]:
                    self.check_words(work, share, bound)

    def test_no_other_way_brings_more(self):
        """Stopping by the state and by how many steps were gone: never more than the height."""
        for work in drawn_works(82, (2, 4, 6), 1):
            for bound in bounds_of(work, (3, 4)):
                told = [exact(height) for height in self.told(work, (3, 4), bound)]
                most = [Fraction(0)] * len(work)
                for _ in range(6):
                    values = [pair(one) for one in most]
                    most = [max(0, brought(work, (3, 4), at, bound, values)) for at in range(len(work))]
                    for one, height in zip(most, told):
                        self.assertLessEqual(one, height)

    def test_written_out(self):
        # Pay 3 for ever with the share 1/2 is 6; each bound less 1 brings 2 more.
        work = (((3, 1), ((0, (1, 1)),)),)
        self.assertEqual(heights(work, (1, 2), (0, 1)), ((6, 1),))
        self.assertEqual(heights(work, (1, 2), (1, 1)), ((4, 1),))
        self.assertEqual(heights(work, (1, 2), (3, 1)), ((0, 1),))
        self.assertEqual(heights(work, (1, 2), (4, 1)), ((0, 1),))
        self.assertEqual(heights(work, (1, 2), (-1, 2)), ((7, 1),))

    def test_the_same_again(self):
        first = heights(EXAMPLE, (1, 2), (3, 2))
        heights(EXAMPLE, (1, 2), (1, 2))
        heights(ONE, (1, 2), (3, 2))
        self.assertEqual(heights(EXAMPLE, (1, 2), (3, 2)), first)


class IsFloor(PlainCase):
    def test_all_sets(self):
        for work in drawn_works(83, (1, 2, 3), 3) + drawn_works(84, (4, 5), 1):
            for bound in bounds_of(work, (2, 3)):
                for state in range(len(work)):
                    for states in sets_of(len(work)) if len(work) < 4 else sets_of(len(work))[::3]:
                        wanted = exact(rate(work, (2, 3), state, states)) >= exact(bound)
                        self.tells(wanted, is_floor, work, (2, 3), state, bound, states)

    def test_there_is_one_exactly_if_the_number_is_at_least_the_bound(self):
        for work in drawn_works(85, (1, 2, 3, 4), 1):
            for bound in bounds_of(work, (9, 10)):
                for state, number in enumerate(numbers(work, (9, 10))):
                    found = any(is_floor(work, (9, 10), state, bound, states) for states in sets_of(len(work)))
                    self.assertEqual(found, exact(number) >= exact(bound))

    def test_the_sets_that_reach_the_number(self):
        for work in drawn_works(86, (3, 6), 2) + great_works():
            for share in SHARES[:1] + SHARES[-2:]:
                for state, number in enumerate(numbers(work, share)):
                    more = pair(exact(number) + Fraction(1, 10 ** 900))
                    for states in (states_above(work, share, state), states_not_less(work, share, state)):
                        self.tells(True, is_floor, work, share, state, number, states)
                        self.tells(False, is_floor, work, share, state, more, states)

    def test_with_the_state_itself_or_without(self):
        # From 0 the set {1} brings 3 in 3/2 steps, and 0 is not come back to.
        for states in ((1,), (0, 1)):
            self.tells(True, is_floor, EXAMPLE, (1, 2), 0, (2, 1), states)
            self.tells(False, is_floor, EXAMPLE, (1, 2), 0, (201, 100), states)
        # 1 stays where it is.
        for states in ((), (1,), (0, 1, 2)):
            self.tells(True, is_floor, EXAMPLE, (1, 2), 1, (6, 1), states)
            self.tells(False, is_floor, EXAMPLE, (1, 2), 1, (7, 1), states)

    def test_what_is_not_a_set_of_states(self):
        low = (-10 ** 9, 1)
        for work in (EXAMPLE, ONE, chain(6), ring(2)):
            self.tells(True, is_floor, work, (1, 2), 0, low, (0,))
            for value in not_sets(work) + OTHER_VALUES:
                self.tells(False, is_floor, work, (1, 2), 0, low, value)

    def test_not_ascending_twice_or_not_there(self):
        low = (-10 ** 9, 1)
        for value in (
            (1, 0), (2, 1), (0, 2, 1), (0, 0), (1, 1), (0, 1, 1), (3,), (-1,), (-1, 0), (0, 3), (1, 2, 3),
            (True,), (0, True), (False, 1), (False,), (None,), ("1",), ((1,),), ([1],), ((0, 1),), [1], [0, 1], [],
        ):
            self.tells(False, is_floor, EXAMPLE, (1, 2), 0, low, value)

    def test_deep_and_long_values(self):
        for value in (deep(20000), (deep(20000),), (0, deep(20000)), (0,) * 100000, tuple(range(100000))):
            self.assertIs(is_floor(EXAMPLE, (1, 2), 0, (-9, 1), value), False)


class IsCeiling(PlainCase):
    def near(self, told):
        """The heights with one of them a little less or more, or far more, or less than 0."""
        found = []
        for at, height in enumerate(told):
            for other in (exact(height) - LITTLE, exact(height) + LITTLE, exact(height) + 1000, Fraction(-1)):
                found.append(told[:at] + (pair(other),) + told[at + 1:])
        return found

    def test_the_heights_are_one_exactly_if_the_number_is_at_most_the_bound(self):
        for work in drawn_works(87, (1, 2, 3, 4, 5, 6), 1):
            for share in ((1, 2), (99, 100), (10 ** 30 - 1, 10 ** 30)):
                for bound in bounds_of(work, share):
                    told = heights(work, share, bound)
                    for state, number in enumerate(numbers(work, share)):
                        self.tells(exact(number) <= exact(bound), is_ceiling, work, share, state, bound, told)

    def test_tuples_near_the_heights(self):
        yes = no = 0
        for work in drawn_works(88, (1, 2, 3, 5), 1):
            for bound in bounds_of(work, (2, 3)):
                for value in self.near(heights(work, (2, 3), bound)):
                    for state in range(len(work)):
                        wanted = by_the_words(work, (2, 3), state, bound, value)
                        self.tells(wanted, is_ceiling, work, (2, 3), state, bound, value)
                        yes, no = yes + wanted, no + (not wanted)
        self.assertGreater(min(yes, no), 100)

    def test_a_height_less_is_no_ceiling(self):
        """The heights are the least of all: with a little less somewhere it fails."""
        for work in drawn_works(89, (2, 4, 6), 1) + [EXAMPLE]:
            for state, number in enumerate(numbers(work, (3, 4))):
                told = heights(work, (3, 4), number)
                for at, height in enumerate(told):
                    less = told[:at] + (pair(exact(height) - LITTLE),) + told[at + 1:]
                    self.tells(False, is_ceiling, work, (3, 4), state, number, less)

    def test_drawn_tuples(self):
        draw = random.Random(90)
        for work in drawn_works(91, (1, 2, 3), 2):
            for _ in range(60):
                value = tuple(pair(Fraction(draw.randint(0, 30), 2)) for _ in work)
                bound = pair(draw.randint(-3, 12))
                state = draw.randrange(len(work))
                wanted = by_the_words(work, (1, 2), state, bound, value)
                self.tells(wanted, is_ceiling, work, (1, 2), state, bound, value)

    def test_a_bound_below_the_number_has_none(self):
        draw = random.Random(92)
        for work in drawn_works(93, (1, 2, 3), 2):
            for state, number in enumerate(numbers(work, (1, 2))):
                below = pair(exact(number) - LITTLE)
                told = heights(work, (1, 2), below)
                for value in self.near(told) + [told, ((0, 1),) * len(work), ((10 ** 9, 1),) * len(work)]:
                    self.tells(False, is_ceiling, work, (1, 2), state, below, value)
                for _ in range(40):
                    value = tuple(pair(exact(height) + Fraction(draw.randint(0, 40), 3)) for height in told)
                    self.tells(False, is_ceiling, work, (1, 2), state, below, value)

    def test_a_bound_above_the_number_has_more_than_one(self):
        for work in drawn_works(94, (1, 2, 4), 1):
            top = pair(max(exact(pay) for pay, _ in work) + 1)
            for state in range(len(work)):
                self.tells(True, is_ceiling, work, (1, 2), state, top, ((0, 1),) * len(work))
                self.tells(True, is_ceiling, work, (1, 2), state, top, ((1, 1),) * len(work))

    def test_the_fraction_of_the_state_itself_need_not_be_0(self):
        # From 0 one step brings 0 - 2 + (8/2 + 0) / 2 = 0, whatever 0's own fraction is.
        for own in ((0, 1), (1, 10 ** 30), (5, 1), (10 ** 40, 1)):
            self.tells(True, is_ceiling, EXAMPLE, (1, 2), 0, (2, 1), (own, (8, 1), (0, 1)))
        for value in (
            ((-1, 9), (8, 1), (0, 1)), ((0, 1), (8, 1), (1, 9)), ((0, 1), (79, 10), (0, 1)),
            ((0, 1), (81, 10), (0, 1)),
        ):
            self.tells(False, is_ceiling, EXAMPLE, (1, 2), 0, (2, 1), value)

    def test_too_short_too_long_or_no_fractions(self):
        high = (10 ** 9, 1)
        good = ((1, 1), (1, 2), (0, 1))
        self.tells(True, is_ceiling, EXAMPLE, (1, 2), 0, high, good)
        for value in ((), good[:1], good[:2], good + ((0, 1),), good + good, list(good), [list(one) for one in good]):
            self.tells(False, is_ceiling, EXAMPLE, (1, 2), 0, high, value)
        for entry in NOT_FRACTIONS + [(-1, 1), (-1, 10 ** 40), (-10 ** 40, 1)]:
            for at in range(3):
                self.tells(False, is_ceiling, EXAMPLE, (1, 2), 0, high, good[:at] + (entry,) + good[at + 1:])
        for entry in [(0, 1)] + [value for value in FRACTIONS if value[0] > 0 and exact(value) < 1000]:
            self.tells(True, is_ceiling, EXAMPLE, (1, 2), 0, high, good[:1] + (entry,) + good[2:])

    def test_other_values(self):
        for work in (EXAMPLE, ONE, chain(2)):
            for value in OTHER_VALUES + [(0,), (0, 1), (0, 0, 0), ("0", "1"), (None,) * len(work)]:
                self.tells(False, is_ceiling, work, (1, 2), 0, (10 ** 9, 1), value)
        for value in (deep(20000), (deep(20000),) * 3, ((0, 1), (0, 1), (0, deep(20000))), ((0, 1),) * 100000):
            self.assertIs(is_ceiling(EXAMPLE, (1, 2), 0, (99, 1), value), False)

    def test_great_and_tiny(self):
        for work in great_works():
            for share in ((1, 10 ** 30), (10 ** 30 - 1, 10 ** 30)):
                told = numbers(work, share)
                for state, number in enumerate(told):
                    above = heights(work, share, number)
                    self.tells(True, is_ceiling, work, share, state, number, above)
                    less = pair(exact(number) - Fraction(1, 10 ** 800))
                    self.tells(False, is_ceiling, work, share, state, less, heights(work, share, less))


class PayFor(PlainCase):
    def check(self, work, share, state, bound):
        pay = self.call(pay_for, work, share, state, bound)
        self.is_a_fraction(pay)
        told = numbers(with_pay(work, state, exact(pay)), share)
        self.assertEqual(told[state], bound)
        more = numbers(with_pay(work, state, exact(pay) + LITTLE), share)
        less = numbers(with_pay(work, state, exact(pay) - LITTLE), share)
        self.assertGreater(exact(more[state]), exact(bound))
        self.assertLess(exact(less[state]), exact(bound))

    def test_drawn_works(self):
        for work in drawn_works(95, (1, 2, 3, 4, 5, 6), 1):
            for state in range(len(work)):
                for bound in ((0, 1), (5, 2), (-1, 3), (10 ** 40, 1), (-10 ** 40, 1)):
                    self.check(work, (4, 5), state, bound)

    def test_small_works(self):
        for work in small_works(2, [1, 4]) + small_works(3, [2, 0, 5])[::7]:
            for state in range(len(work)):
                for bound in ((3, 1), (0, 1), (2, 1)):
                    self.check(work, (1, 2), state, bound)

    def test_shares_near_0_and_1(self):
        for work in drawn_works(96, (3, 6), 1) + [EXAMPLE]:
            for share in SHARES[2:]:
                for state in range(len(work)):
                    self.check(work, share, state, (7, 2))

    def test_the_own_number_gives_the_own_pay(self):
        for work in drawn_works(97, (1, 2, 3, 4, 5, 6), 3) + great_works() + [EXAMPLE, chain(6), ring(6)]:
            for share in ((2, 3), (10 ** 30 - 1, 10 ** 30)):
                for state, number in enumerate(numbers(work, share)):
                    self.assertEqual(self.call(pay_for, work, share, state, number), work[state][0])

    def test_the_own_pay_does_not_matter(self):
        for work in drawn_works(98, (2, 4), 2):
            for state in range(len(work)):
                told = pay_for(work, (3, 4), state, (5, 3))
                for pay in (-10 ** 30, 0, 10 ** 30):
                    self.assertEqual(pay_for(with_pay(work, state, pay), (3, 4), state, (5, 3)), told)

    def test_bounds_above_all_others(self):
        """There no other state is gone on from, so the pay is the bound itself."""
        for work in drawn_works(99, (1, 3, 6), 2):
            top = pair(max(exact(pay) for pay, _ in work) + 1)
            for state in range(len(work)):
                self.assertEqual(pay_for(work, (3, 4), state, top), top)

    def test_states_that_lead_to_themselves(self):
        self.assertEqual(pay_for(ONE, (1, 2), 0, (5, 1)), (5, 1))
        self.assertEqual(pay_for(ONE, (1, 2), 0, (-5, 9)), (-5, 9))
        # Staying with 1/2, else to 6 for ever: by the bound 2 that is 8 above, with the chance 1/2.
        work = (((1, 1), ((0, (1, 2)), (1, (1, 2)))), ((6, 1), ((1, (1, 1)),)))
        self.assertEqual(pay_for(work, (1, 2), 0, (2, 1)), (0, 1))
        self.assertEqual(pay_for(work, (1, 2), 0, (6, 1)), (6, 1))
        self.assertEqual(pay_for(work, (1, 2), 0, (7, 1)), (7, 1))
        self.assertEqual(pay_for(work, (1, 2), 1, (2, 1)), (2, 1))
        for bound in ((2, 1), (6, 1), (7, 1), (-100, 1)):
            self.check(work, (1, 2), 0, bound)

    def test_the_way_back_over_others(self):
        # 0 leads to 1 with pay 6, and 1 back to 0: at the bound nothing more is gained there.
        work = (((0, 1), ((1, (1, 1)),)), ((6, 1), ((0, (1, 1)),)))
        self.assertEqual(pay_for(work, (1, 2), 0, (2, 1)), (0, 1))
        self.assertEqual(pay_for(work, (1, 2), 0, (0, 1)), (-3, 1))
        self.assertEqual(pay_for(work, (1, 2), 0, (-2, 1)), (-6, 1))


class Wrong(PlainCase):
    def test_wrong_values_alone_and_beside_wrong_later_ones(self):
        for work in (EXAMPLE, ONE, chain(6)):
            wrong = [
                (NoWork, NOT_WORKS), (NoShare, NOT_SHARES), (NoState, not_states(work)), (NoFraction, NOT_FRACTIONS),
            ]
            self.refuses_in_order(heights, (work, (1, 2), (1, 1)), [wrong[0], wrong[1], wrong[3]])
            self.refuses_in_order(pay_for, (work, (1, 2), 0, (1, 1)), wrong)
            for value in ((), ((0, 1),) * len(work), None):
                self.refuses_in_order(is_floor, (work, (1, 2), 0, (1, 1), value), wrong)
                self.refuses_in_order(is_ceiling, (work, (1, 2), 0, (1, 1), value), wrong)

    def test_where_the_answer_would_not_hang_on_it(self):
        for function in (is_floor, is_ceiling):
            for value in (True, None, [], (9, 9, 9, 9), ()):
                self.refuses(NoShare, function, ONE, (1, 1), 0, (1, 1), value)
                self.refuses(NoState, function, ONE, (1, 2), 1, (1, 1), value)
                self.refuses(NoState, function, ring(2), (1, 2), True, (1, 1), value)
                self.refuses(NoFraction, function, ONE, (1, 2), 0, (2, 2), value)
                self.refuses(NoFraction, function, ONE, (1, 2), 0, 1, value)
        # One state, and a bound above all pays: the share does not matter.
        self.refuses(NoShare, heights, ONE, (0, 1), (99, 1))
        self.refuses(NoShare, pay_for, ONE, (1, 1), 0, (99, 1))
        self.refuses(NoState, pay_for, ring(2), (1, 2), False, (99, 1))

    def test_a_refusal_leaves_nothing_behind(self):
        self.refuses(NoFraction, heights, EXAMPLE, (1, 2), (4, 2))
        self.refuses(NoFraction, pay_for, EXAMPLE, (1, 2), 0, [2, 1])
        self.assertEqual(heights(EXAMPLE, (1, 2), (2, 1)), ((0, 1), (8, 1), (0, 1)))
        self.assertEqual(pay_for(EXAMPLE, (1, 2), 0, (2, 1)), (0, 1))


class Quick(PlainCase):
    def test_six_states(self):
        for work in great_works() + [work_of([range(6)] * 6), with_pays(ring(6), [5] * 6)]:
            for share in SHARES:
                last = len(work) - 1
                bound = numbers(work, share)[0]
                self.is_quick(heights, work, share, bound)
                self.is_quick(pay_for, work, share, last, bound)
                self.is_quick(is_floor, work, share, last, bound, tuple(range(last)))
                self.is_quick(is_ceiling, work, share, last, bound, heights(work, share, bound))


if __name__ == "__main__":
    unittest.main()
