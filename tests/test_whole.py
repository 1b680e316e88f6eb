"""The program as a whole: points 1 to 3 over all modules, and amounts of any size."""

import doctest
import random
import unittest
from fractions import Fraction
from pathlib import Path

from nextwork.best import best_values, is_rule, loss, rule_by_numbers, rule_by_pays, rule_plan
from nextwork.changes import best_with_changes, change_loss, change_values
from nextwork.companies import better_at, plan_values, standings
from nextwork.curves import company_curve, company_worth, curve, worth
from nextwork.desk import Desk
from nextwork.numbers import numbers, ranking, states_above, states_not_less
from nextwork.records import judge
from nextwork.seen import is_ring, makes, rule_of
from nextwork.shown import heights, is_ceiling, is_floor, pay_for
from nextwork.stopping import rate, spent
from nextwork.wanted import company_for, work_with
from nextwork.works import is_work, reached
from sample_companies import (
    EXAMPLE, HALF, ONE, choices_by, drawn_choices, drawn_companies, drawn_plan, drawn_rule, equal_companies,
    plan_by_numbers,
)
from samples import PlainCase, drawn_works, exact, pair, with_pays

# Amounts are multiplied by these.
FACTORS = [Fraction(10 ** 12), Fraction(1, 10 ** 12), Fraction(7, 3)]
README = Path(__file__).resolve().parent.parent / "README.md"


def times(value, factor):
    """The fraction, or each one of a tuple of fractions, multiplied."""
    if isinstance(value[0], tuple):
        return tuple(times(one, factor) for one in value)
    return pair(exact(value) * factor)


def work_times(work, factor):
    return with_pays(work, [exact(pay) * factor for pay, _ in work])


def company_times(company, factor):
    return tuple(work_times(work, factor) for work in company)


def curve_times(pieces, factor):
    """Starts and rests are amounts, slopes are not."""
    return tuple(
        (None if start is None else times(start, factor), times(rest, factor), slope)
        for start, rest, slope in pieces
    )


def loss_times(told, factor):
    """What loss and change_loss tell: the last entry is an amount."""
    return told if told == ("best",) else told[:-1] + (times(told[-1], factor),)


class Amounts(PlainCase):
    """With all amounts multiplied, amounts are told multiplied, and all else the same."""

    def each(self, rows):
        draw = random.Random(180)
        for one in rows:
            for factor in FACTORS:
                yield one, draw.choice([HALF, (99, 100), (1, 10 ** 30)]), factor

    def test_going_on_and_numbers(self):
        for work, share, factor in self.each(drawn_works(181, (1, 2, 4, 6), 1)):
            other = work_times(work, factor)
            states = tuple(range(0, len(work), 2))
            for state in range(len(work)):
                pay, steps = spent(work, share, state, states)
                self.assertEqual(spent(other, share, state, states), (times(pay, factor), steps))
                self.assertEqual(rate(other, share, state, states), times(rate(work, share, state, states), factor))
                for function in (states_above, states_not_less):
                    self.assertEqual(function(other, share, state), function(work, share, state))
            self.assertEqual(numbers(other, share), times(numbers(work, share), factor))
            self.assertEqual(ranking(other, share), ranking(work, share))

    def test_what_shows_numbers(self):
        for work, share, factor in self.each(drawn_works(182, (1, 3, 6), 1)):
            other = work_times(work, factor)
            for state, number in enumerate(numbers(work, share)):
                for bound in (number, pair(exact(number) + Fraction(1, 10 ** 40)), (0, 1)):
                    told, more = heights(work, share, bound), times(bound, factor)
                    self.assertEqual(heights(other, share, more), times(told, factor))
                    self.assertEqual(pay_for(other, share, state, more), times(pay_for(work, share, state, bound), factor))
                    states = states_above(work, share, state)
                    self.tells(
                        is_floor(work, share, state, bound, states), is_floor, other, share, state, more, states,
                    )
                    self.tells(
                        is_ceiling(work, share, state, bound, told), is_ceiling, other, share, state, more,
                        times(told, factor),
                    )

    def test_plans_and_rules(self):
        draw = random.Random(183)
        for company, share, factor in self.each(drawn_companies(184)):
            other = company_times(company, factor)
            plan, rule = drawn_plan(draw, company), drawn_rule(draw, company)
            self.assertEqual(plan_values(other, share, plan), times(plan_values(company, share, plan), factor))
            self.assertEqual(better_at(other, share, plan), better_at(company, share, plan))
            self.assertEqual(best_values(other, share), times(best_values(company, share), factor))
            self.assertEqual(rule_by_numbers(other, share), rule_by_numbers(company, share))
            self.assertEqual(rule_by_pays(other), rule_by_pays(company))
            self.assertEqual(loss(other, share, rule), loss_times(loss(company, share, rule), factor))

    def test_offers(self):
        for company, share, factor in self.each(drawn_companies(185)[::2]):
            other = company_times(company, factor)
            work, other_work = company[-1], other[-1]
            standing = (0,) * len(company)
            self.assertEqual(curve(other_work, share, 0), curve_times(curve(work, share, 0), factor))
            self.assertEqual(
                company_curve(other, share, standing), curve_times(company_curve(company, share, standing), factor),
            )
            for offer in ((3, 1), (-1, 2), (20, 7)):
                more = times(offer, factor)
                self.assertEqual(worth(other_work, share, 0, more), times(worth(work, share, 0, offer), factor))
                self.assertEqual(
                    company_worth(other, share, standing, more),
                    times(company_worth(company, share, standing, offer), factor),
                )

    def test_prices(self):
        draw = random.Random(186)
        for company, share, factor in self.each(drawn_companies(187)):
            if len(standings(company)) * len(company) <= 12:
                other = company_times(company, factor)
                plan = tuple(draw.randrange(len(company)) for _ in standings(company) for _ in company)
                for price in ((0, 1), (1, 1), (2, 9)):
                    more = times(price, factor)
                    self.assertEqual(
                        change_values(other, share, more, plan),
                        times(change_values(company, share, price, plan), factor),
                    )
                    self.assertEqual(
                        best_with_changes(other, share, more), times(best_with_changes(company, share, price), factor),
                    )
                    self.assertEqual(
                        change_loss(other, share, more), loss_times(change_loss(company, share, price), factor),
                    )

    def test_the_desk(self):
        draw = random.Random(188)
        for company, share, factor in self.each(drawn_companies(189)[::2]):
            desk = Desk(company, share, (0,) * len(company))
            other = Desk(company_times(company, factor), share, (0,) * len(company))
            for _ in range(5):
                work = draw.randrange(len(company))
                state = draw.choice(company[work][desk.standing()[work]][1])[0]
                self.assertEqual(other.go(work, state), times(desk.go(work, state), factor))
                desk.set_pay(work, state, (5, 2))
                other.set_pay(work, state, times((5, 2), factor))
                self.assertEqual(other.earned(), times(desk.earned(), factor))
                self.assertEqual(other.worth_now(), times(desk.worth_now(), factor))
                self.assertEqual(other.cost_of(work), times(desk.cost_of(work), factor))
                self.assertEqual(other.next_work(), desk.next_work())

    def test_records(self):
        draw = random.Random(190)
        for company, share, factor in self.each(drawn_companies(191)):
            other = company_times(company, factor)
            for plan in (drawn_plan(draw, company), plan_by_numbers(company, share)):
                values = plan_values(company, share, plan)
                more = times(values, factor)
                self.assertEqual(
                    judge(("best", other, share, plan, more)), judge(("best", company, share, plan, values)),
                )
                self.assertEqual(
                    judge(("better", other, share, plan, more, (0,) * len(company), 0)),
                    judge(("better", company, share, plan, values, (0,) * len(company), 0)),
                )

    def test_wanted_numbers_and_choices(self):
        draw = random.Random(192)
        for company, share, factor in self.each(drawn_companies(193)[::2]):
            wanted = tuple(pair(draw.randint(-5, 5)) for _ in company[0])
            self.assertEqual(
                work_with(company[0], share, times(wanted, factor)),
                work_times(work_with(company[0], share, wanted), factor),
            )
            choices = drawn_choices(draw, company, 4)
            other = company_times(company, factor)
            self.assertEqual(rule_of(other, choices), rule_of(company, choices))
            self.assertEqual(company_for(other, share, choices)[0], company_for(company, share, choices)[0])


class VeryLittle(PlainCase):
    def test_of_two_pays_that_differ_by_very_little_the_greater_one_is_first(self):
        little = Fraction(1, 10 ** 300)
        for pay in (Fraction(2), Fraction(10 ** 12), Fraction(0), Fraction(-1, 3)):
            low, high = with_pays(ONE, [pay]), with_pays(ONE, [pay + little])
            for share in (HALF, (1, 10 ** 30), (10 ** 30 - 1, 10 ** 30)):
                for company, work in (((low, high), 1), ((high, low), 0), ((low, low, high), 2)):
                    start = (0,) * len(company)
                    self.assertEqual(rule_by_numbers(company, share)[0], (work, 0))
                    self.assertEqual(rule_by_pays(company)[0], (work, 0))
                    self.assertEqual(Desk(company, share, start).next_work(), work)
                    for other in range(len(company)):
                        better = better_at(company, share, (other,))
                        self.assertEqual(better, None if other == work else (start, work))
                        cost = Desk(company, share, start).cost_of(other)
                        self.assertEqual(cost, pair(0 if other == work else little))
                    # A price that is still less than what changing over brings.
                    self.assertEqual(change_loss(company, share, pair(little / 10 ** 40)), ("best",))


class Together(PlainCase):
    """What one module tells is what the others go by."""

    def test_numbers_are_shown_by_floors_and_ceilings(self):
        for work in drawn_works(194, (1, 2, 3, 4, 5, 6), 1):
            for state, number in enumerate(numbers(work, (4, 5))):
                floor = ("floor", work, (4, 5), state, number, states_above(work, (4, 5), state))
                ceiling = ("ceiling", work, (4, 5), state, number, heights(work, (4, 5), number))
                self.assertEqual([judge(floor), judge(ceiling)], [("right",)] * 2)

    def test_the_desk_goes_the_best_way(self):
        """The best value is the mean of what is earned by going on with the told work."""
        for company in drawn_companies(195)[::2] + equal_companies()[::2]:
            desk = Desk(company, (2, 3), (0,) * len(company))
            for _ in range(3):
                work = desk.next_work()
                before, standing = desk.worth_now(), desk.standing()
                pay, moves = company[work][standing[work]]
                behind = Fraction(0)
                desk.mark()
                for state, chance in moves:
                    desk.go(work, state)
                    behind += exact(chance) * exact(desk.worth_now())
                    desk.back(desk.marks()[-1])
                self.assertEqual(exact(before), exact(pay) + Fraction(2, 3) * behind)
                desk.go(work, moves[-1][0])

    def test_without_a_price_and_with_a_low_offer_it_is_the_best_value(self):
        for company in drawn_companies(196):
            best = best_values(company, (3, 4))
            for standing, value in zip(standings(company), best):
                self.assertEqual(company_curve(company, (3, 4), standing)[0], (None, value, (0, 1)))
            if len(best) * len(company) <= 12:
                told = best_with_changes(company, (3, 4), (0, 1))
                self.assertEqual(told, tuple(value for value in best for _ in company))

    def test_the_rule_that_made_choices_need_not_be_best(self):
        draw = random.Random(197)
        for company in drawn_companies(198):
            rule = drawn_rule(draw, company)
            choices = tuple(zip(standings(company), rule_plan(company, rule)))
            kind, told = rule_of(company, choices)
            self.assertEqual(kind, "rule")
            self.assertEqual(rule_plan(company, told), rule_plan(company, rule))
            self.assertEqual(loss(company, HALF, told), loss(company, HALF, rule))
            # Where its choices are made by numbers, the rule errs nowhere.
            _, other = company_for(company, HALF, choices)
            self.assertEqual(loss(other, HALF, rule), ("best",))


class TheSameAgain(PlainCase):
    def calls(self):
        """Calls of all functions that tell something of a work or a company."""
        work, company, choices = EXAMPLE[0], EXAMPLE, (((1, 0), 1),)
        rule = ((0, 0), (1, 0), (0, 1))
        return [
            (reached, work, 0), (spent, work, HALF, 0, (1,)), (rate, work, HALF, 0, ()), (numbers, work, HALF),
            (states_above, work, HALF, 1), (states_not_less, work, HALF, 1), (ranking, work, HALF),
            (heights, work, HALF, (1, 1)), (is_floor, work, HALF, 0, (1, 1), ()), (is_work, work),
            (is_ceiling, work, HALF, 0, (3, 1), ((0, 1), (0, 1))), (pay_for, work, HALF, 0, (1, 1)),
            (standings, company), (plan_values, company, HALF, (0, 1)), (better_at, company, HALF, (0, 0)),
            (best_values, company, HALF), (rule_by_numbers, company, HALF), (rule_by_pays, company),
            (is_rule, company, rule), (rule_plan, company, rule), (loss, company, HALF, rule),
            (curve, work, HALF, 0), (worth, work, HALF, 0, (1, 1)), (company_curve, company, HALF, (0, 0)),
            (company_worth, company, HALF, (0, 0), (1, 1)), (change_values, company, HALF, (1, 1), (0, 0, 1, 1)),
            (best_with_changes, company, HALF, (1, 1)), (change_loss, company, HALF, (1, 1)),
            (rule_of, company, choices), (makes, company, choices, rule), (is_ring, company, choices, (0,)),
            (judge, ("rule", company, choices, rule)), (work_with, work, HALF, ((1, 1), (2, 1))),
            (company_for, company, HALF, choices),
        ]

    def test_in_any_order(self):
        first = {call[0].__name__: self.call(*call) for call in self.calls()}
        self.assertEqual(len(first), len(self.calls()))
        draw = random.Random(199)
        for _ in range(3):
            for call in draw.sample(self.calls(), len(self.calls())):
                told = self.call(*call)
                self.assertEqual(told, first[call[0].__name__])
                self.assertIs(type(told), type(first[call[0].__name__]))
                if isinstance(told, list):
                    told.append("more")

    def test_no_list_is_the_same_as_one_before(self):
        for call in self.calls():
            one, other = self.call(*call), self.call(*call)
            if isinstance(one, list):
                self.assertIsNot(one, other)
                for row, other_row in zip(one, other):
                    if isinstance(row, list):
                        self.assertIsNot(row, other_row)


class Readme(unittest.TestCase):
    def test_its_examples(self):
        text = "\n".join("" if row.startswith("```") else row for row in README.read_text().splitlines())
        example = doctest.DocTestParser().get_doctest(text, {}, "README", None, 0)
        self.assertGreater(len(example.examples), 30)
        self.assertEqual(doctest.DocTestRunner(verbose=False).run(example).failed, 0)


if __name__ == "__main__":
    unittest.main()
