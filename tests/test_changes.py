"""Point 14, point 3 of prices, and nextwork/changes.py."""

import random
import unittest
from fractions import Fraction
from itertools import product

from nextwork.best import best_values
from nextwork.changes import best_with_changes, change_loss, change_values
from nextwork.companies import plan_values
from nextwork.wrongs import NoCompany, NoPlan, NoPrice, NoShare, TooMany, WorkError
from sample_companies import (
    EXAMPLE, HALF, NOT_COMPANIES, NOT_PRICES, ONE, SIZES, all_standings, brought, drawn_company,
    equal_companies, great_companies, plan_by_numbers,
)
from samples import NOT_SHARES, SHARES, PlainCase, chain, exact, pair, ring, with_pays, work_of

PRICES = [(0, 1), (1, 1), (1, 3), (7, 2), (1, 10 ** 40), (10 ** 40, 1)]
GREAT_SHARES = [(1, 10 ** 30), (10 ** 30 - 1, 10 ** 30)]
# With exactly 12 places, and with just more.
FULL = [(6, 1), (1, 6), (3, 2), (2, 3), (2, 2, 1), (4, 1, 1), (1, 2, 2)]
OVER = [(4, 2), (2, 4), (6, 2), (3, 3), (5, 1, 1), (1, 5, 1), (3, 2, 1), (2, 2, 2), (6, 2, 1), (1, 3, 4)]


def few_places(company):
    return len(all_standings(company)) * len(company) <= 12


def drawn_few(seed, each=2):
    """So many companies of each of the sizes with at most 12 places."""
    draw = random.Random(seed)
    companies = [drawn_company(draw, sizes) for sizes in SIZES + FULL for _ in range(each)]
    return [company for company in companies if few_places(company)]


def all_places(company):
    return [(standing, last) for standing in all_standings(company) for last in range(len(company))]


def drawn_plan(draw, company):
    return tuple(draw.randrange(len(company)) for _ in all_places(company))


def step(company, share, price, place, work, values):
    """What going on with the work brings at the place: less the price if it is another work than the last one."""
    standing, last = place
    behind = {target: values[(target, work)] for target in all_standings(company)}
    return brought(company, share, standing, work, behind) - (exact(price) if work != last else 0)


def table(company, values):
    return {place: exact(value) for place, value in zip(all_places(company), values)}


def number_plan(company, share):
    """For each place the least of the works whose states have the greatest number, whatever the last one was."""
    told = dict(zip(all_standings(company), plan_by_numbers(company, share)))
    return tuple(told[standing] for standing, _ in all_places(company))


class Example(unittest.TestCase):
    def test_of_the_document(self):
        self.assertEqual(
            [
                best_with_changes(EXAMPLE, HALF, (1, 1)), change_loss(EXAMPLE, HALF, (0, 1)),
                change_loss(EXAMPLE, HALF, (1, 1)),
            ],
            [((9, 2), (4, 1), (3, 1), (4, 1)), ("best",), ("errs", (0, 0), 1, (1, 2))],
        )
        self.assertEqual(
            change_values(EXAMPLE, HALF, (1, 1), (0, 0, 1, 1)), ((9, 2), (7, 2), (3, 1), (4, 1)),
        )


class ChangesCase(PlainCase):
    def values(self, function, company, *rest):
        answer = self.call(function, company, *rest)
        self.assertIs(type(answer), tuple)
        self.assertEqual(len(answer), len(all_places(company)))
        for value in answer:
            self.is_a_fraction(value)
        return answer


class ChangeValues(ChangesCase):
    def check(self, company, share, price, plan):
        """Each value is what the planned work brings, with the values behind it."""
        values = table(company, self.values(change_values, company, share, price, plan))
        for place, work in zip(all_places(company), plan):
            self.assertEqual(values[place], step(company, share, price, place, work, values))

    def test_by_the_words(self):
        draw = random.Random(80)
        for company in drawn_few(81) + [one for one in equal_companies() if few_places(one)]:
            for share in SHARES:
                self.check(company, share, draw.choice(PRICES), drawn_plan(draw, company))

    def test_all_plans_of_small_companies(self):
        draw = random.Random(82)
        for sizes in ((2,), (1, 1), (2, 1), (1, 1, 1)):
            company = drawn_company(draw, sizes)
            for plan in product(range(len(company)), repeat=len(all_places(company))):
                self.check(company, (3, 4), (2, 3), plan)

    def test_great_and_tiny(self):
        draw = random.Random(83)
        for company in great_companies():
            if few_places(company):
                for share in GREAT_SHARES:
                    for price in ((10 ** 300 + 1, 10 ** 299 + 7), (1, 10 ** 300)):
                        self.check(company, share, price, drawn_plan(draw, company))

    def test_without_a_price_the_last_work_does_not_matter(self):
        draw = random.Random(84)
        for company in drawn_few(85):
            plan = tuple(draw.randrange(len(company)) for _ in all_standings(company))
            wanted = tuple(value for value in plan_values(company, HALF, plan) for _ in company)
            spread = tuple(work for work in plan for _ in company)
            self.assertEqual(self.values(change_values, company, HALF, (0, 1), spread), wanted)

    def test_one_work_never_costs_a_price(self):
        for many in range(1, 7):
            company = (chain(many),)
            plan = (0,) * many
            for price in PRICES:
                self.assertEqual(
                    self.values(change_values, company, HALF, price, plan), plan_values(company, HALF, plan),
                )

    def test_written_out(self):
        # Two works of one state, 2 and 5 for ever.
        company = (ONE, with_pays(ONE, [5]))
        self.assertEqual(change_values(company, HALF, (1, 1), (0, 0)), ((4, 1), (3, 1)))
        self.assertEqual(change_values(company, HALF, (1, 1), (1, 1)), ((9, 1), (10, 1)))
        self.assertEqual(change_values(company, HALF, (1, 1), (0, 1)), ((4, 1), (10, 1)))
        # To and fro without end: 5 - 1 and 2 - 1 in turn.
        self.assertEqual(change_values(company, HALF, (1, 1), (1, 0)), ((6, 1), (4, 1)))
        # The price of the last work of three: (0,) last 0, 1, 2.
        three = company + (with_pays(ONE, [8]),)
        self.assertEqual(change_values(three, HALF, (3, 2), (2, 2, 2)), ((29, 2), (29, 2), (16, 1)))


class BestWithChanges(ChangesCase):
    def check(self, company, share, price):
        """At each place the best value is the most that a work brings: no work brings more."""
        told = self.values(best_with_changes, company, share, price)
        values = table(company, told)
        for place in values:
            most = max(step(company, share, price, place, work, values) for work in range(len(company)))
            self.assertEqual(values[place], most, (company, share, price, place))
        return told

    def test_no_work_brings_more(self):
        draw = random.Random(86)
        for company in drawn_few(87) + [one for one in equal_companies() if few_places(one)]:
            for share in SHARES:
                for price in draw.sample(PRICES, 2) + [(1, 10)]:
                    self.check(company, share, price)

    def test_all_plans_of_small_companies(self):
        draw = random.Random(88)
        for sizes in ((3,), (1, 1), (2, 1), (1, 2), (1, 1, 1)):
            for price in ((1, 2), (2, 1)):
                company = drawn_company(draw, sizes)
                plans = product(range(len(company)), repeat=len(all_places(company)))
                told = [change_values(company, (2, 3), price, plan) for plan in plans]
                most = tuple(pair(max(exact(values[at]) for values in told)) for at in range(len(told[0])))
                self.assertEqual(self.values(best_with_changes, company, (2, 3), price), most)

    def test_great_and_tiny(self):
        for company in great_companies():
            if few_places(company):
                for share in GREAT_SHARES:
                    for price in ((10 ** 300 + 1, 10 ** 299 + 7), (1, 10 ** 300), (1, 7 ** 301)):
                        self.check(company, share, price)

    def test_without_a_price_it_is_the_best_value_whatever_the_last_work_was(self):
        for company in drawn_few(89) + [one for one in equal_companies() if few_places(one)]:
            for share in (HALF, (99, 100)):
                wanted = tuple(value for value in best_values(company, share) for _ in company)
                self.assertEqual(self.values(best_with_changes, company, share, (0, 1)), wanted)

    def test_a_greater_price_never_brings_more(self):
        differ = 0
        for company in drawn_few(90):
            before = None
            for price in ((0, 1), (1, 10 ** 40), (1, 3), (1, 2), (2, 1), (9, 1), (10 ** 40, 1)):
                told = self.values(best_with_changes, company, (4, 5), price)
                if before is not None:
                    for less, more in zip(told, before):
                        self.assertLessEqual(exact(less), exact(more))
                    differ += told != before
                before = told
        self.assertGreater(differ, 30)

    def test_with_a_great_price_one_never_changes_over(self):
        for company in drawn_few(91):
            told = table(company, self.values(best_with_changes, company, (4, 5), (10 ** 40, 1)))
            for work in range(len(company)):
                alone = plan_values(company, (4, 5), (work,) * len(all_standings(company)))
                for standing, value in zip(all_standings(company), alone):
                    self.assertEqual(told[(standing, work)], exact(value))

    def test_the_least_price_at_which_one_stays(self):
        # 2 for ever or 5 for ever: changing over once brings 6 more.
        company = (ONE, with_pays(ONE, [5]))
        self.assertEqual(best_with_changes(company, HALF, (5, 1)), ((5, 1), (10, 1)))
        self.assertEqual(best_with_changes(company, HALF, (6, 1)), ((4, 1), (10, 1)))
        little = Fraction(1, 10 ** 300)
        self.assertEqual(best_with_changes(company, HALF, pair(6 - little)), (pair(4 + little), (10, 1)))
        self.assertEqual(best_with_changes(company, HALF, pair(6 + little)), ((4, 1), (10, 1)))

    def test_one_work(self):
        for many in range(1, 7):
            for price in PRICES:
                told = self.values(best_with_changes, (ring(many),), (3, 4), price)
                self.assertEqual(told, best_values((ring(many),), (3, 4)))

    def test_the_same_again(self):
        first = best_with_changes(EXAMPLE, HALF, (1, 1))
        best_with_changes(EXAMPLE, HALF, (0, 1))
        change_loss(EXAMPLE, (1, 9), (1, 1))
        self.assertEqual(best_with_changes(EXAMPLE, HALF, (1, 1)), first)


class ChangeLoss(ChangesCase):
    def check(self, company, share, price):
        told = self.call(change_loss, company, share, price)
        self.assertIs(type(told), tuple)
        best = best_with_changes(company, share, price)
        values = change_values(company, share, price, number_plan(company, share))
        wanted = ("best",)
        for place, most, value in reversed(list(zip(all_places(company), best, values))):
            if exact(value) < exact(most):
                wanted = ("errs", *place, pair(exact(most) - exact(value)))
        self.assertEqual(told, wanted)
        return told

    def test_by_the_words(self):
        found = []
        for company in drawn_few(92) + [one for one in equal_companies() if few_places(one)]:
            for share in SHARES[:4]:
                for price in ((1, 1), (1, 3), (10 ** 40, 1), (1, 10 ** 40)):
                    found.append(self.check(company, share, price))
        self.assertGreater(found.count(("best",)), 30)
        self.assertGreater(len({told[1:3] for told in found if told != ("best",)}), 10)

    def test_great_and_tiny(self):
        for company in great_companies():
            if few_places(company):
                for share in GREAT_SHARES:
                    for price in ((10 ** 300 + 1, 10 ** 299 + 7), (1, 7 ** 301)):
                        self.check(company, share, price)

    def test_without_a_price_it_errs_nowhere(self):
        for company in drawn_few(93) + [one for one in equal_companies() if few_places(one)]:
            for share in SHARES:
                self.assertEqual(self.call(change_loss, company, share, (0, 1)), ("best",))

    def test_one_work(self):
        for many in range(1, 7):
            for price in PRICES:
                self.assertEqual(self.call(change_loss, (ring(many),), (3, 4), price), ("best",))

    def test_with_equal_numbers_it_goes_on_with_the_least_work(self):
        # Both bring 2 for ever; with the last work 1, going on with 0 costs the price once.
        self.assertEqual(change_loss((ONE, ONE), HALF, (1, 1)), ("errs", (0, 0), 1, (1, 1)))
        self.assertEqual(change_loss((ONE, ONE, ONE), HALF, (7, 3)), ("errs", (0, 0, 0), 1, (7, 3)))

    def test_a_very_little_loss(self):
        little = Fraction(1, 10 ** 300)
        self.assertEqual(change_loss((ONE, ONE), HALF, pair(little)), ("errs", (0, 0), 1, pair(little)))
        company = (ONE, with_pays(ONE, [5]))
        self.assertEqual(change_loss(company, HALF, (6, 1)), ("best",))
        self.assertEqual(change_loss(company, HALF, pair(6 + little)), ("errs", (0, 0), 0, pair(little)))


class TooManyPlaces(PlainCase):
    def refuses_the_places(self, function, *arguments):
        self.refuses(TooMany, function, *arguments)
        try:
            function(*arguments)
        except WorkError as error:
            self.assertIs(type(error.limit), int)
            self.assertEqual(error.limit, 12)

    def test_exactly_twelve(self):
        for sizes in FULL:
            company = tuple(chain(many) for many in sizes)
            self.assertEqual(len(all_places(company)), 12)
            self.assertEqual(len(self.call(best_with_changes, company, HALF, (1, 1))), 12)
            self.assertEqual(len(self.call(change_values, company, HALF, (1, 1), (0,) * 12)), 12)
            self.assertIn(self.call(change_loss, company, HALF, (1, 1))[0], ("errs", "best"))

    def test_every_number_of_places(self):
        for many in (1, 2, 3):
            for sizes in product(range(1, 7), repeat=many):
                company = tuple(chain(one) for one in sizes)
                if len(all_standings(company)) <= 12 and not few_places(company):
                    self.refuses_the_places(best_with_changes, company, HALF, (1, 1))
                    self.refuses_the_places(change_loss, company, HALF, (1, 1))
                    self.refuses_the_places(change_values, company, HALF, (1, 1), (0,) * len(all_places(company)))

    def test_behind_the_price_and_before_the_plan(self):
        for sizes in OVER:
            company = tuple(chain(many) for many in sizes)
            for price in NOT_PRICES:
                self.refuses(NoPrice, best_with_changes, company, HALF, price)
                self.refuses(NoPrice, change_loss, company, HALF, price)
                self.refuses(NoPrice, change_values, company, HALF, price, None)
            for share in NOT_SHARES:
                self.refuses(NoShare, best_with_changes, company, share, (0, 1))
                self.refuses(NoShare, change_loss, company, share, (0, 1))
                self.refuses(NoShare, change_values, company, share, (0, 1), ())
            for plan in (None, (), [], True, (0,) * 12, (0,) * len(all_places(company)), (9,) * 16):
                self.refuses_the_places(change_values, company, HALF, (0, 1), plan)


class Wrong(PlainCase):
    def test_wrong_values_alone_and_beside_wrong_later_ones(self):
        for company in (EXAMPLE, (ONE,), (ring(2), ONE, ONE), (chain(3), chain(2))):
            wrong = [(NoCompany, NOT_COMPANIES), (NoShare, NOT_SHARES), (NoPrice, NOT_PRICES)]
            for function in (best_with_changes, change_loss):
                self.refuses_in_order(function, (company, HALF, (1, 1)), wrong)
            self.refuses_in_order(
                change_values, (company, HALF, (1, 1), (0,) * len(all_places(company))),
                wrong + [(NoPlan, self.not_plans_for_places(company))],
            )

    def not_plans_for_places(self, company):
        """What is no plan for places; one for standings is none either, where these are fewer."""
        good = (0,) * len(all_places(company))
        found = [
            None, True, False, 0, 1, "", "0" * len(good), (), [], list(good), good + (0,), good[1:], good + good,
            (good,), [good],
        ]
        if len(company) > 1:
            found.append((0,) * len(all_standings(company)))
        for entry in (len(company), -1, -len(company), 10 ** 30, True, False, None, "0", (0,), [0], ()):
            found.extend([(entry,) + good[1:], good[:-1] + (entry,)])
        return found

    def test_where_the_answer_would_not_hang_on_it(self):
        # One work: no price is ever paid, and there is just one plan.
        for price in NOT_PRICES:
            self.refuses(NoPrice, best_with_changes, (ONE,), HALF, price)
            self.refuses(NoPrice, change_loss, (ONE,), HALF, price)
            self.refuses(NoPrice, change_values, (ONE,), HALF, price, (0,))
        self.refuses(NoPlan, change_values, (ONE,), HALF, (1, 1), (False,))
        self.refuses(NoPlan, change_values, (ONE,), HALF, (1, 1), (1,))
        self.refuses(NoPlan, change_values, (ONE, ONE), HALF, (1, 1), (0,))
        self.refuses(NoShare, change_loss, (ONE,), (1, 1), (1, 1))

    def test_the_price_may_be_0(self):
        self.assertEqual(best_with_changes(EXAMPLE, HALF, (0, 1)), ((5, 1), (5, 1), (4, 1), (4, 1)))
        self.refuses(NoPrice, best_with_changes, EXAMPLE, HALF, (0, 2))
        self.refuses(NoPrice, best_with_changes, EXAMPLE, HALF, 0)

    def test_a_refusal_leaves_nothing_behind(self):
        self.refuses(NoPlan, change_values, EXAMPLE, HALF, (1, 1), [0, 0, 1, 1])
        self.refuses(NoPrice, change_loss, EXAMPLE, HALF, (-1, 1))
        self.assertEqual(change_loss(EXAMPLE, HALF, (1, 1)), ("errs", (0, 0), 1, (1, 2)))


class Quick(PlainCase):
    def test_twelve_places(self):
        draw = random.Random(94)
        for sizes in FULL:
            company = tuple(
                with_pays(work_of([range(many)] * many), [
                    Fraction(draw.randint(-10 ** 300, 10 ** 300), draw.randint(1, 10 ** 300)) for _ in range(many)
                ])
                for many in sizes
            )
            for share in SHARES:
                for price in ((1, 10), (10 ** 299 + 7, 3), (1, 7 ** 300)):
                    self.is_quick(best_with_changes, company, share, price)
                    self.is_quick(change_loss, company, share, price)
                    self.is_quick(change_values, company, share, price, drawn_plan(draw, company))


if __name__ == "__main__":
    unittest.main()
