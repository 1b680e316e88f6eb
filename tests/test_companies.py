"""Point 10, points 3 and 11 of the values of plans, and nextwork/companies.py."""

import random
import unittest
from fractions import Fraction
from itertools import product

from nextwork.companies import better_at, is_company, plan_values, standings
from nextwork.stopping import spent
from nextwork.wrongs import NoCompany, NoPlan, NoShare
from sample_companies import (
    EXAMPLE, HALF, NOT_COMPANIES, ONE, SIZES, all_plans, all_standings, as_lists, brought, drawn_companies,
    drawn_company, drawn_plan, first_better, not_plans, plan_by_numbers, value_table,
)
from samples import NOT_SHARES, SHARES, PlainCase, chain, deep, exact, pair, ring, with_pays, work_of


class Example(unittest.TestCase):
    def test_of_the_document(self):
        self.assertEqual(
            [
                is_company(EXAMPLE), standings(EXAMPLE), plan_values(EXAMPLE, HALF, (0, 1)),
                plan_values(EXAMPLE, HALF, (1, 1)),
            ],
            [True, [(0, 0), (1, 0)], ((5, 1), (4, 1)), ((4, 1), (4, 1))],
        )
        self.assertEqual(
            [better_at(EXAMPLE, HALF, (0, 1)), better_at(EXAMPLE, HALF, (1, 1)), better_at(EXAMPLE, HALF, (0, 0))],
            [None, ((0, 0), 0), ((0, 0), 1)],
        )


class IsCompany(PlainCase):
    def test_one_to_three_works(self):
        for sizes in SIZES:
            self.tells(True, is_company, tuple(chain(many) for many in sizes))
            self.tells(True, is_company, tuple(ring(many) for many in sizes))
        for company in drawn_companies(10, 3) + [EXAMPLE]:
            self.tells(True, is_company, company)

    def test_every_product_of_numbers_of_states(self):
        for many in (1, 2, 3):
            for sizes in product(range(1, 7), repeat=many):
                states = 1
                for one in sizes:
                    states *= one
                self.tells(states <= 12, is_company, tuple(chain(one) for one in sizes))

    def test_four_works_or_none(self):
        self.tells(False, is_company, ())
        for many in (4, 5, 100):
            self.tells(False, is_company, (ONE,) * many)

    def test_equal_works(self):
        for work in (ONE, chain(2), chain(3), ring(2)):
            self.tells(True, is_company, (work, work))
        self.tells(True, is_company, (chain(2),) * 3)

    def test_a_list_for_a_tuple_at_any_depth(self):
        for company in (EXAMPLE, (chain(2), ring(2), ONE)):
            for value in as_lists(company):
                self.tells(False, is_company, value)

    def test_what_just_fails(self):
        for value in NOT_COMPANIES:
            self.tells(False, is_company, value)
        # The third work of three, by the last of its chances.
        moves = ((0, (1, 2)), (1, (1, 3)))
        for last in ((1, 6), (2, 12), (1, 7), (0, 1)):
            work = (((1, 1), moves + ((2, last),)), ((1, 1), ((1, (1, 1)),)), ((1, 1), ((1, (1, 1)),)))
            self.tells(last == (1, 6), is_company, (ONE, chain(2), work))

    def test_deep_and_long_values(self):
        for value in (deep(20000), (deep(20000),), (ONE, deep(20000)), (ONE,) * 100000, (ONE * 100000,)):
            self.assertIs(is_company(value), False)


class Standings(PlainCase):
    def test_ascending_and_all(self):
        for company in drawn_companies(11):
            told = self.call(standings, company)
            self.assertIs(type(told), list)
            self.assertEqual(told, all_standings(company))
            self.assertEqual(told, sorted(set(told)))
            self.assertEqual({type(standing) for standing in told}, {tuple})

    def test_written_out(self):
        self.assertEqual(standings((ONE,)), [(0,)])
        self.assertEqual(standings((chain(3),)), [(0,), (1,), (2,)])
        self.assertEqual(standings((chain(2), chain(3))), [(0, 0), (0, 1), (0, 2), (1, 0), (1, 1), (1, 2)])
        self.assertEqual(standings((chain(2), ONE, chain(2))), [(0, 0, 0), (0, 0, 1), (1, 0, 0), (1, 0, 1)])

    def test_each_list_is_a_new_one(self):
        first = standings(EXAMPLE)
        first.append("more")
        second = standings(EXAMPLE)
        self.assertIsNot(first, second)
        self.assertEqual(second, [(0, 0), (1, 0)])

    def test_no_company(self):
        for value in NOT_COMPANIES:
            self.refuses(NoCompany, standings, value)


class PlanValues(PlainCase):
    def check(self, company, share, plan):
        """Each value is the pay of the planned work, plus the share times the mean of the values behind it."""
        told = self.call(plan_values, company, share, plan)
        self.assertIs(type(told), tuple)
        self.assertEqual(len(told), len(plan))
        for value in told:
            self.is_a_fraction(value)
        table = value_table(company, told)
        for standing, work in zip(all_standings(company), plan):
            self.assertEqual(table[standing], brought(company, share, standing, work, table))

    def test_by_the_words(self):
        draw = random.Random(12)
        for company in drawn_companies(13, 2):
            for share in SHARES:
                self.check(company, share, drawn_plan(draw, company))

    def test_all_plans_of_small_companies(self):
        draw = random.Random(14)
        for sizes in ((1,), (1, 1), (2, 2), (1, 3), (2, 1, 1), (1, 1, 1)):
            company = drawn_company(draw, sizes)
            for plan in all_plans(company):
                self.check(company, (3, 4), plan)

    def test_always_the_same_work(self):
        """Then the others wait, and the values are those of going on with this one without end."""
        for company in drawn_companies(15):
            for work in range(len(company)):
                plan = (work,) * len(all_standings(company))
                told = plan_values(company, (2, 3), plan)
                states = tuple(range(len(company[work])))
                for standing, value in zip(all_standings(company), told):
                    self.assertEqual(value, spent(company[work], (2, 3), standing[work], states)[0])

    def test_equal_works_have_each_their_own_state(self):
        # Both pay 4 once and then nothing: each of them is gone on with in turn.
        work = (((4, 1), ((1, (1, 1)),)), ((0, 1), ((1, (1, 1)),)))
        self.assertEqual(plan_values((work, work), HALF, (0, 0, 1, 0)), ((6, 1), (4, 1), (4, 1), (0, 1)))
        self.assertEqual(plan_values((work, work), HALF, (0, 1, 1, 0)), ((6, 1), (0, 1), (4, 1), (0, 1)))
        self.assertEqual(plan_values((work, work), HALF, (1, 1, 0, 0)), ((4, 1), (0, 1), (0, 1), (0, 1)))

    def test_written_out_with_chances(self):
        # The pay 6 comes again with the chance 1/2: 6 / (1 - 1/4). With 2 for ever behind it: 7 / (1 - 1/4).
        work = (((6, 1), ((0, (1, 2)), (1, (1, 2)))), ((0, 1), ((1, (1, 1)),)))
        self.assertEqual(plan_values((work,), HALF, (0, 0)), ((8, 1), (0, 1)))
        self.assertEqual(plan_values((work, ONE), HALF, (0, 1)), ((28, 3), (4, 1)))
        self.assertEqual(plan_values((ONE, work), HALF, (1, 0)), ((28, 3), (4, 1)))

    def test_great_and_tiny_pays(self):
        draw = random.Random(16)
        for sizes in ((2, 3), (6, 2), (2, 2, 3)):
            for digits in (300, 600):
                company = tuple(
                    with_pays(work, [
                        Fraction(draw.randint(-10 ** digits, 10 ** digits), draw.randint(1, 10 ** (digits // 2)))
                        for _ in work
                    ])
                    for work in drawn_company(draw, sizes)
                )
                for share in SHARES[-2:]:
                    self.check(company, share, drawn_plan(draw, company))

    def test_the_same_again(self):
        first = plan_values(EXAMPLE, HALF, (0, 1))
        plan_values(EXAMPLE, (9, 10), (1, 1))
        better_at(EXAMPLE, HALF, (0, 0))
        self.assertEqual(plan_values(EXAMPLE, HALF, (0, 1)), first)


class BetterAt(PlainCase):
    def test_by_the_words(self):
        draw = random.Random(17)
        found = []
        for company in drawn_companies(18, 2):
            for share in SHARES:
                plan = drawn_plan(draw, company)
                wanted = first_better(company, share, plan_values(company, share, plan))
                told = self.call(better_at, company, share, plan)
                self.assertEqual(told, wanted)
                found.append(told)
        self.assertGreater(len({repr(one) for one in found}), 10)

    def test_all_plans_of_small_companies(self):
        """None exactly for the plans with the greatest values of all, and the one by numbers is among them."""
        draw = random.Random(19)
        for sizes in ((2,), (1, 1), (2, 2), (3, 2), (1, 4), (2, 1, 2), (1, 1, 1)):
            for _ in range(4):
                company = drawn_company(draw, sizes)
                share = draw.choice([HALF, (9, 10), (1, 5)])
                plans = all_plans(company)
                told = [plan_values(company, share, plan) for plan in plans]
                most = tuple(pair(max(exact(values[at]) for values in told)) for at in range(len(told[0])))
                for plan, values in zip(plans, told):
                    answer = self.call(better_at, company, share, plan)
                    self.assertEqual(answer is None, values == most)
                    self.assertEqual(answer, first_better(company, share, values))
                self.assertEqual(plan_values(company, share, plan_by_numbers(company, share)), most)

    def test_the_plan_by_numbers_is_best(self):
        for company in drawn_companies(20, 3):
            for share in SHARES:
                self.assertIsNone(self.call(better_at, company, share, plan_by_numbers(company, share)))

    def test_no_way_of_choosing_brings_more(self):
        """Choosing by how many steps were gone, too: what is surely brought anyway, and then the best of each step."""
        for company in drawn_companies(22):
            share = (3, 4)
            rows = all_standings(company)
            best = value_table(company, plan_values(company, share, plan_by_numbers(company, share)))
            least = min(exact(pay) for work in company for pay, _ in work)
            values = {standing: least / (1 - exact(share)) for standing in rows}
            for _ in range(5):
                values = {
                    standing: max(brought(company, share, standing, work, values) for work in range(len(company)))
                    for standing in rows
                }
                for standing in rows:
                    self.assertLessEqual(values[standing], best[standing])

    def test_a_work_that_brings_just_as_much_does_not_bring_more(self):
        for company in ((ONE, ONE), (ONE,) * 3, (with_pays(ring(2), [5, 5]), with_pays(chain(3), [5] * 3))):
            for plan in all_plans(company):
                self.assertIsNone(self.call(better_at, company, HALF, plan))
        # Two equal works that pay once: at (0, 0) it is all the same with which one begins.
        work = (((4, 1), ((1, (1, 1)),)), ((0, 1), ((1, (1, 1)),)))
        for first in (0, 1):
            for last in (0, 1):
                self.assertIsNone(better_at((work, work), HALF, (first, 0, 1, last)))
        self.assertEqual(better_at((work, work), HALF, (0, 1, 1, 0)), ((0, 1), 0))

    def test_the_least_of_several(self):
        # At both standings of the first company the other work brings more.
        work = with_pays(ring(2), [1, 1])
        self.assertEqual(better_at((work, ONE), HALF, (0, 0)), ((0, 0), 1))
        self.assertEqual(better_at((ONE, work), HALF, (1, 1)), ((0, 0), 0))
        self.assertEqual(better_at((work, ONE), HALF, (1, 0)), ((1, 0), 1))
        # Two works bring more at one standing: the lesser one is told, not the better one.
        three = ((((9, 1), ((0, (1, 1)),)),), (((5, 1), ((0, (1, 1)),)),), ONE)
        self.assertEqual(better_at(three, HALF, (2,)), ((0, 0, 0), 0))
        self.assertEqual(better_at((three[1], three[0], ONE), HALF, (2,)), ((0, 0, 0), 0))
        self.assertEqual(better_at((ONE, three[1], three[0]), HALF, (0,)), ((0, 0, 0), 1))

    def test_pays_that_differ_by_very_little(self):
        little = Fraction(1, 10 ** 300)
        more = with_pays(ONE, [2 + little])
        for share in SHARES:
            self.assertEqual(self.call(better_at, (ONE, more), share, (0,)), ((0, 0), 1))
            self.assertIsNone(self.call(better_at, (ONE, more), share, (1,)))

    def test_the_answer_is_made_of_tuples_and_integers(self):
        standing, work = better_at(EXAMPLE, HALF, (0, 0))
        self.assertIs(type(better_at(EXAMPLE, HALF, (0, 0))), tuple)
        self.assertIs(type(standing), tuple)
        self.assertEqual([type(one) for one in standing + (work,)], [int, int, int])


class Wrong(PlainCase):
    def test_wrong_values_alone_and_beside_wrong_later_ones(self):
        for company in (EXAMPLE, (ONE,), (chain(2), chain(3), chain(2)), (ring(2), ONE, ONE)):
            good = (company, HALF, (0,) * len(all_standings(company)))
            wrong = [(NoCompany, NOT_COMPANIES), (NoShare, NOT_SHARES), (NoPlan, not_plans(company))]
            for function in (plan_values, better_at):
                self.refuses_in_order(function, good, wrong)

    def test_too_short_too_long_or_no_works(self):
        for function in (plan_values, better_at):
            for plan in (
                (), (0,), (0, 0, 0), (0, 2), (2, 0), (0, -1), (True, 0), (0, False), (None, 0), (0, "1"), [0, 1],
                ((0,), 1), (0, [1]), True, None, 0, "01", (0, 10 ** 30),
            ):
                self.refuses(NoPlan, function, EXAMPLE, HALF, plan)
                self.refuses(NoShare, function, EXAMPLE, (1, 1), plan)
                self.refuses(NoCompany, function, list(EXAMPLE), (1, 1), plan)

    def test_where_the_answer_would_not_hang_on_it(self):
        for function in (plan_values, better_at):
            # One work, one standing: there is just one plan; the last standing is not come to.
            self.refuses(NoPlan, function, (ONE,), HALF, (1,))
            self.refuses(NoPlan, function, (ONE,), HALF, (False,))
            self.refuses(NoPlan, function, EXAMPLE, HALF, (1, 9))
        # All works are equal: nothing brings more by any share.
        self.refuses(NoShare, better_at, (ONE, ONE), (1, 1), (0,))

    def test_a_refusal_leaves_nothing_behind(self):
        self.refuses(NoPlan, plan_values, EXAMPLE, HALF, [0, 1])
        self.refuses(NoShare, better_at, EXAMPLE, (0, 1), (0, 1))
        self.assertEqual(plan_values(EXAMPLE, HALF, (0, 1)), ((5, 1), (4, 1)))


class Quick(PlainCase):
    def test_twelve_standings(self):
        draw = random.Random(21)
        full = (work_of([range(3)] * 3), work_of([range(2)] * 2), work_of([range(2)] * 2))
        long = [Fraction(draw.randint(-10 ** 400, 10 ** 400), draw.randint(1, 10 ** 400)) for _ in range(6)]
        for company in (
            full, tuple(with_pays(work, long) for work in full),
            (with_pays(work_of([range(6)] * 6), long), with_pays(work_of([range(2)] * 2), long[4:])),
        ):
            for share in SHARES:
                plan = drawn_plan(draw, company)
                self.is_quick(is_company, company)
                self.is_quick(standings, company)
                self.is_quick(plan_values, company, share, plan)
                self.is_quick(better_at, company, share, plan)
                self.is_quick(better_at, company, share, plan_by_numbers(company, share))


if __name__ == "__main__":
    unittest.main()
