"""Point 18 and nextwork/wanted.py."""

import random
import unittest
from fractions import Fraction
from itertools import combinations

from nextwork.best import rule_by_numbers
from nextwork.companies import is_company
from nextwork.numbers import numbers
from nextwork.seen import is_ring, makes, rule_of
from nextwork.shown import heights
from nextwork.wanted import company_for, work_with
from nextwork.works import is_work
from nextwork.wrongs import NoChoices, NoCompany, NoNumbers, NoShare, NoWork
from sample_companies import (
    EXAMPLE, HALF, NOT_COMPANIES, ONE, all_choices, all_standings, as_lists, choices_by, drawn_choices,
    drawn_companies, drawn_rule, equal_companies, great_companies, not_choices, plan_by_numbers,
)
from samples import (
    NOT_FRACTIONS, NOT_SHARES, NOT_WORKS, SHARES, PlainCase, chain, deep, drawn_works, exact, great_works, mean,
    pair, ring, small_works, with_pays, work_of,
)

WORK = (((9, 1), ((1, (1, 1)),)), ((9, 1), ((1, (1, 1)),)))
TWO_BY_TWO = (chain(2), ring(2))


class Example(unittest.TestCase):
    def test_of_the_document(self):
        self.assertEqual(
            [
                work_with(WORK, HALF, ((1, 1), (3, 1))), work_with(WORK, HALF, ((9, 1), (9, 1))) == WORK,
            ],
            [(((-1, 1), ((1, (1, 1)),)), ((3, 1), ((1, (1, 1)),))), True],
        )
        company = (WORK, (((1, 1), ((0, (1, 1)),)),))
        self.assertEqual(
            [
                company_for(company, HALF, (((0, 0), 1),))[0],
                company_for(company, HALF, (((0, 0), 0), ((0, 0), 1)))[0],
            ],
            ["company", "ring"],
        )


class WorkWith(PlainCase):
    def check(self, work, share, wanted):
        """A work with the same moves, whose numbers are the wanted ones; its pays are those of the words."""
        told = self.call(work_with, work, share, wanted)
        self.tells(True, is_work, told)
        self.assertEqual([moves for _, moves in told], [moves for _, moves in work])
        self.assertEqual(numbers(told, share), wanted)
        for number, (pay, moves) in zip(wanted, told):
            behind = [
                exact(height) if exact(other) > exact(number) else 0
                for other, height in zip(wanted, heights(told, share, number))
            ]
            self.assertEqual(exact(pay), exact(number) - exact(share) * mean(moves, behind))
        return told

    def test_drawn_numbers(self):
        draw = random.Random(160)
        for work in drawn_works(161, (1, 2, 3, 4, 5, 6), 2):
            for share in SHARES:
                wanted = tuple(pair(Fraction(draw.randint(-9, 9), draw.choice([1, 1, 3]))) for _ in work)
                self.check(work, share, wanted)

    def test_all_works_of_two_and_three_states(self):
        for work in small_works(2, [1, 4]):
            for wanted in ([0, 1], [1, 0], [5, 5], [-3, 7]):
                self.check(work, (2, 3), tuple(map(pair, wanted)))
        for work in small_works(3, [0, 0, 0])[::3]:
            for wanted in ([0, 1, 2], [2, 1, 1], [1, 2, 1]):
                self.check(work, (2, 3), tuple(map(pair, wanted)))

    def test_with_its_own_numbers_it_is_the_work_itself(self):
        for work in drawn_works(162, (1, 2, 3, 4, 5, 6), 2) + great_works() + [chain(6), ring(6)]:
            for share in SHARES[:1] + SHARES[-2:]:
                self.assertEqual(self.call(work_with, work, share, numbers(work, share)), work)

    def test_the_pays_there_were_do_not_matter(self):
        draw = random.Random(163)
        for work in drawn_works(164, (2, 4, 6), 1):
            wanted = tuple(pair(draw.randint(-5, 5)) for _ in work)
            told = work_with(work, (3, 4), wanted)
            for pays in ([0] * len(work), range(len(work)), [-10 ** 50] * len(work)):
                self.assertEqual(work_with(with_pays(work, pays), (3, 4), wanted), told)

    def test_equal_numbers_are_the_pays(self):
        for work in drawn_works(165, (1, 3, 6), 2):
            for number in ((0, 1), (5, 3), (-10 ** 40, 7)):
                told = self.check(work, (3, 4), (number,) * len(work))
                self.assertEqual([pay for pay, _ in told], [number] * len(work))

    def test_two_states_with_the_greatest_number(self):
        draw = random.Random(166)
        for work in drawn_works(167, (3, 4, 6), 2):
            high = draw.sample(range(len(work)), 2)
            wanted = tuple(pair(7 if state in high else draw.randint(0, 3)) for state in range(len(work)))
            told = self.check(work, (4, 5), wanted)
            self.assertEqual([told[state][0] for state in high], [(7, 1)] * 2)

    def test_great_and_tiny(self):
        draw = random.Random(168)
        for work in drawn_works(169, (2, 6), 1):
            for share in SHARES[-2:]:
                for wanted in (
                    [Fraction(draw.randint(-10 ** 300, 10 ** 300), draw.randint(1, 10 ** 300)) for _ in work],
                    [1 + Fraction(draw.randint(-9, 9), 10 ** 300) for _ in work],
                    [Fraction(draw.randint(-9, 9), 7 ** 300) for _ in work],
                ):
                    self.check(work, share, tuple(map(pair, wanted)))

    def test_written_out(self):
        # 5 for ever with the chance 1/2: at the number 1 that is 8 above it.
        work = work_of([[0, 1], [1]])
        self.assertEqual(work_with(work, HALF, ((1, 1), (5, 1))), with_pays(work, [-1, 5]))
        self.assertEqual(work_with(work, HALF, ((5, 1), (1, 1))), with_pays(work, [5, 1]))
        # 3 over 2 over 1 along a ring: each counts only those that are greater.
        self.assertEqual(work_with(ring(3), HALF, ((1, 1), (2, 1), (3, 1))), with_pays(ring(3), ["1/4", "3/2", 3]))

    def test_no_numbers(self):
        for work in (WORK, ONE, chain(6)):
            for value in self.not_numbers(work):
                self.refuses(NoNumbers, work_with, work, HALF, value)
        for value in (deep(20000), (deep(20000),) * 2, ((0, 1),) * 100000):
            with self.assertRaises(NoNumbers):
                work_with(WORK, HALF, value)

    def not_numbers(self, work):
        """What is no tuple of fractions, one for each state."""
        good = ((1, 2),) * len(work)
        found = [
            None, True, False, 0, 1, "", "01", (), [], list(good), good + ((0, 1),), good[1:], good + good, (good,),
            (None,) * len(work), (0,) * len(work), tuple(range(len(work))),
        ] + as_lists(good)
        for at in range(len(good)):
            for entry in NOT_FRACTIONS:
                found.append(good[:at] + (entry,) + good[at + 1:])
        # A work of two states: a fraction is no tuple of two fractions.
        return found + [(1, 2), (0, 1)]

    def test_wrong_values_alone_and_beside_wrong_later_ones(self):
        for work in (WORK, ONE, chain(6)):
            self.refuses_in_order(
                work_with, (work, HALF, ((1, 2),) * len(work)),
                [(NoWork, NOT_WORKS), (NoShare, NOT_SHARES), (NoNumbers, self.not_numbers(work))],
            )

    def test_where_the_answer_would_not_hang_on_it(self):
        # One state: its pay is its number, whatever the share is.
        self.refuses(NoShare, work_with, ONE, (1, 1), ((5, 1),))
        self.refuses(NoNumbers, work_with, ONE, HALF, ((5, 1), (5, 1)))
        self.refuses(NoNumbers, work_with, ONE, HALF, [(5, 1)])


class CompanyFor(PlainCase):
    def check(self, company, share, choices):
        """A company with the same moves whose plan by numbers makes all choices, or a ring of them."""
        told = self.call(company_for, company, share, choices)
        self.assertIs(type(told), tuple)
        kind, one = told
        self.assertEqual(kind, {"rule": "company", "ring": "ring"}[rule_of(company, choices)[0]])
        if kind == "ring":
            self.assertTrue(1 <= len(one) <= 20)
            self.tells(True, is_ring, company, choices, one)
            return kind
        self.tells(True, is_company, one)
        self.assertEqual(
            [[moves for _, moves in work] for work in one], [[moves for _, moves in work] for work in company],
        )
        plan = dict(zip(all_standings(company), plan_by_numbers(one, share)))
        self.assertEqual([plan[standing] for standing, _ in choices], [work for _, work in choices])
        self.tells(True, makes, one, choices, rule_by_numbers(one, share))
        return kind

    def test_choices_that_some_rule_makes(self):
        draw = random.Random(170)
        for company in drawn_companies(171, 2) + equal_companies():
            for many in (1, 6, 20):
                share = draw.choice(SHARES)
                choices = choices_by(draw, company, drawn_rule(draw, company), many)
                self.assertEqual(self.check(company, share, choices), "company")

    def test_any_choices(self):
        draw = random.Random(172)
        kinds = []
        for company in drawn_companies(173, 2):
            for many in (2, 4, 20):
                kinds.append(self.check(company, draw.choice(SHARES), drawn_choices(draw, company, many)))
        self.assertGreater(min(kinds.count("company"), kinds.count("ring")), 15)

    def test_all_choices_of_two_works_of_two_states(self):
        for many in range(4):
            for choices in combinations(all_choices(TWO_BY_TWO), many):
                self.check(TWO_BY_TWO, (3, 4), choices)

    def test_no_choices(self):
        for company in drawn_companies(174):
            self.assertEqual(self.check(company, HALF, ()), "company")

    def test_equal_works_get_each_their_own_pays(self):
        for company in ((ONE, ONE), (chain(2), chain(2)), (ring(2),) * 3):
            start = (0,) * len(company)
            for work in range(len(company)):
                self.assertEqual(self.check(company, HALF, ((start, work),)), "company")

    def test_great_and_tiny(self):
        draw = random.Random(175)
        for company in great_companies():
            for share in SHARES[-2:]:
                self.check(company, share, choices_by(draw, company, drawn_rule(draw, company), 20))

    def test_wrong_values_alone_and_beside_wrong_later_ones(self):
        for company in (EXAMPLE, (ONE,), (chain(2), chain(3), chain(2))):
            for choices in ((), (((0,) * len(company), 0),)):
                self.refuses_in_order(
                    company_for, (company, HALF, choices),
                    [(NoCompany, NOT_COMPANIES), (NoShare, NOT_SHARES), (NoChoices, not_choices(company))],
                )

    def test_where_the_answer_would_not_hang_on_it(self):
        # A ring needs no share, and neither do no choices.
        self.refuses(NoShare, company_for, EXAMPLE, (1, 1), (((0, 0), 0), ((0, 0), 1)))
        self.refuses(NoShare, company_for, (ONE,), (0, 1), ())
        self.refuses(NoChoices, company_for, (ONE,), HALF, (((0,), 0),) * 21)
        self.refuses(NoChoices, company_for, (ONE,), HALF, (((0,), False),))

    def test_the_same_again(self):
        choices = (((1, 0), 1),)
        first = company_for(EXAMPLE, HALF, choices)
        self.refuses(NoChoices, company_for, EXAMPLE, HALF, list(choices))
        company_for(EXAMPLE, HALF, ())
        self.assertEqual(company_for(EXAMPLE, HALF, choices), first)


class Quick(PlainCase):
    def test_six_states_and_twenty_choices(self):
        draw = random.Random(176)
        for work in great_works() + [work_of([range(6)] * 6)]:
            for share in SHARES:
                wanted = tuple(pair(Fraction(draw.randint(-10 ** 300, 10 ** 300), 10 ** 299 + 7)) for _ in work)
                self.is_quick(work_with, work, share, wanted)
        full = (work_of([range(3)] * 3), work_of([range(2)] * 2), work_of([range(2)] * 2))
        for company in [full, (work_of([range(6)] * 6), work_of([range(2)] * 2))] + great_companies()[-6:]:
            for share in SHARES:
                self.is_quick(company_for, company, share, drawn_choices(draw, company, 20))
                made = choices_by(draw, company, drawn_rule(draw, company), 20)
                self.is_quick(company_for, company, share, made)


if __name__ == "__main__":
    unittest.main()
