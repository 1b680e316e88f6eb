"""Point 11, point 3 of the best values of companies, and nextwork/best.py."""

import random
import unittest
from fractions import Fraction
from itertools import permutations, product

from nextwork.best import best_values, is_rule, loss, rule_by_numbers, rule_by_pays, rule_plan
from nextwork.companies import better_at, plan_values
from nextwork.numbers import numbers
from nextwork.stopping import spent
from nextwork.wrongs import NoCompany, NoRule, NoShare
from sample_companies import (
    HALF, NOT_COMPANIES, ONE, all_pairs, all_plans, all_standings, as_lists, best_table, brought,
    drawn_companies, drawn_company, drawn_plan, drawn_rule, equal_companies, great_companies, not_rules,
    plan_by_numbers, plan_by_rule, value_table,
)
from samples import NOT_SHARES, SHARES, PlainCase, chain, deep, exact, pair, ring, with_pays, work_of

EXAMPLE = ((((1, 1), ((1, (1, 1)),)), ((9, 1), ((1, (1, 1)),))), (((2, 1), ((0, (1, 1)),)),))
GREAT_SHARES = [(1, 10 ** 30), (10 ** 30 - 1, 10 ** 30)]


def greatest_first(company, told):
    """All pairs by what is told of their states, the greatest first, equal ones ascending."""
    return tuple(sorted(all_pairs(company), key=lambda one: (-exact(told[one[0]][one[1]]), one)))


class Example(unittest.TestCase):
    def test_of_the_document(self):
        self.assertEqual(
            [rule_by_numbers(EXAMPLE, HALF), rule_by_pays(EXAMPLE), best_values(EXAMPLE, HALF)],
            [((0, 1), (0, 0), (1, 0)), ((0, 1), (1, 0), (0, 0)), ((10, 1), (18, 1))],
        )
        self.assertEqual(
            [
                rule_plan(EXAMPLE, rule_by_pays(EXAMPLE)), loss(EXAMPLE, HALF, rule_by_pays(EXAMPLE)),
                is_rule(EXAMPLE, ((0, 0),)),
            ],
            [(1, 0), ("errs", (0, 0), (6, 1)), False],
        )


class BestValues(PlainCase):
    def told(self, company, share):
        answer = self.call(best_values, company, share)
        self.assertIs(type(answer), tuple)
        self.assertEqual(len(answer), len(all_standings(company)))
        for value in answer:
            self.is_a_fraction(value)
        return answer

    def test_all_plans_of_small_companies(self):
        draw = random.Random(30)
        for sizes in ((1,), (2,), (3,), (4,), (1, 1), (2, 1), (1, 3), (2, 2), (4, 1), (1, 1, 1), (2, 1, 2)):
            for _ in range(4):
                company = drawn_company(draw, sizes)
                for share in ((1, 2), (9, 10), (1, 7)):
                    told = [plan_values(company, share, plan) for plan in all_plans(company)]
                    most = tuple(pair(max(exact(values[at]) for values in told)) for at in range(len(told[0])))
                    self.assertEqual(self.told(company, share), most)

    def test_no_work_brings_more(self):
        """At each standing the best value is the most that a work brings."""
        for company in drawn_companies(31, 2) + equal_companies():
            for share in SHARES:
                self.assertTrue(best_table(company, share, value_table(company, self.told(company, share))))

    def test_great_and_tiny(self):
        for company in great_companies():
            for share in GREAT_SHARES:
                self.assertTrue(best_table(company, share, value_table(company, self.told(company, share))))

    def test_a_plan_has_them_exactly_where_no_work_brings_more(self):
        draw = random.Random(32)
        seen = []
        for company in drawn_companies(33) + equal_companies():
            share = draw.choice(SHARES[:4])
            plans = all_plans(company) if len(all_standings(company)) < 5 else []
            for plan in plans + [drawn_plan(draw, company), plan_by_numbers(company, share)]:
                best = plan_values(company, share, plan) == self.told(company, share)
                self.assertEqual(best, better_at(company, share, plan) is None)
                seen.append(best)
        self.assertGreater(min(seen.count(True), seen.count(False)), 100)

    def test_the_plan_by_numbers_however_ties_are_broken(self):
        draw = random.Random(34)
        ties = 0
        for company in equal_companies() + drawn_companies(35):
            told = [[exact(number) for number in numbers(work, (2, 3))] for work in company]
            for _ in range(6):
                plan = []
                for standing in all_standings(company):
                    here = [told[work][state] for work, state in enumerate(standing)]
                    works = [work for work, number in enumerate(here) if number == max(here)]
                    ties += len(works) > 1
                    plan.append(draw.choice(works))
                self.assertEqual(plan_values(company, (2, 3), tuple(plan)), self.told(company, (2, 3)))
        self.assertGreater(ties, 100)

    def test_no_way_of_choosing_brings_more(self):
        """Choosing by how many steps were gone, too: at the end what is surely brought, before it the best of each."""
        for company in drawn_companies(36):
            best = value_table(company, self.told(company, (3, 4)))
            least = min(exact(pay) for work in company for pay, _ in work)
            values = {standing: 4 * least for standing in best}
            for _ in range(4):
                values = {
                    standing: max(brought(company, (3, 4), standing, work, values) for work in range(len(company)))
                    for standing in best
                }
                for standing, most in best.items():
                    self.assertLessEqual(values[standing], most)

    def test_one_work(self):
        for company in drawn_companies(37, 3):
            if len(company) == 1:
                states = tuple(range(len(company[0])))
                wanted = tuple(spent(company[0], (3, 5), state, states)[0] for state in states)
                self.assertEqual(self.told(company, (3, 5)), wanted)

    def test_another_work_never_brings_less(self):
        for company in drawn_companies(38):
            if len(all_standings(company)) < 7 and len(company) < 3:
                alone = self.told(company, (4, 5))
                beside = self.told(company + (ONE,), (4, 5))
                for one, other in zip(alone, beside):
                    # Going on with the other one alone brings 2 for ever.
                    self.assertGreaterEqual(exact(other), max(exact(one), 10))

    def test_written_out(self):
        # 4 once and then nothing, twice: 4 now, 4 at the next step.
        work = (((4, 1), ((1, (1, 1)),)), ((0, 1), ((1, (1, 1)),)))
        self.assertEqual(best_values((work, work), HALF), ((6, 1), (4, 1), (4, 1), (0, 1)))
        self.assertEqual(best_values((work, work, work), (1, 4))[0], (21, 4))
        self.assertEqual(best_values((ONE,), (3, 4)), ((8, 1),))
        # First a loss of 1, then 9 for ever, beside 2 for ever.
        work = (((-1, 1), ((1, (1, 1)),)), ((9, 1), ((1, (1, 1)),)))
        self.assertEqual(best_values((work, ONE), HALF), ((8, 1), (18, 1)))
        self.assertEqual(best_values((ONE, work), (1, 10)), ((20, 9), (10, 1)))

    def test_pays_that_differ_by_very_little(self):
        little = Fraction(1, 10 ** 300)
        more = with_pays(ONE, [2 + little])
        for share in SHARES:
            wanted = pair((2 + little) / (1 - exact(share)))
            self.assertEqual(self.told((ONE, more), share), (wanted,))
            self.assertEqual(self.told((more, ONE, ONE), share), (wanted,))

    def test_the_same_again(self):
        first = best_values(EXAMPLE, HALF)
        best_values((ONE, ONE), HALF)
        best_values(EXAMPLE, (1, 9))
        self.assertEqual(best_values(EXAMPLE, HALF), first)


class Rules(PlainCase):
    def test_by_numbers(self):
        for company in drawn_companies(40, 3) + equal_companies() + great_companies():
            for share in (HALF, (99, 100), (1, 10 ** 30)):
                told = self.call(rule_by_numbers, company, share)
                self.assertEqual(told, greatest_first(company, [numbers(work, share) for work in company]))
                self.is_plain_rule(company, told)

    def test_by_pays(self):
        for company in drawn_companies(41, 5) + equal_companies() + great_companies():
            told = self.call(rule_by_pays, company)
            self.assertEqual(told, greatest_first(company, [[pay for pay, _ in work] for work in company]))
            self.is_plain_rule(company, told)

    def is_plain_rule(self, company, rule):
        self.assertIs(type(rule), tuple)
        self.assertEqual({type(entry) for entry in rule}, {tuple})
        self.assertEqual(sorted(rule), all_pairs(company))
        self.tells(True, is_rule, company, rule)

    def test_equal_ones_stand_ascending(self):
        company = (with_pays(ring(3), [2, 2, 2]), ONE, with_pays(chain(3), [2, 2, 2]))
        self.assertEqual(rule_by_numbers(company, (3, 4)), tuple(all_pairs(company)))
        self.assertEqual(rule_by_pays(company), tuple(all_pairs(company)))
        company = (ONE, with_pays(chain(2), [1, 2]), with_pays(chain(2), [3, 2]))
        self.assertEqual(rule_by_pays(company), ((2, 0), (0, 0), (1, 1), (2, 1), (1, 0)))
        self.assertEqual(rule_by_numbers(company, HALF), ((2, 0), (0, 0), (1, 1), (2, 1), (1, 0)))

    def test_by_value_and_not_by_the_tops(self):
        work = with_pays(chain(6), [Fraction(1, 2), Fraction(2, 5), Fraction(-1, 3), Fraction(-2, 3), 0, Fraction(9, 7)])
        self.assertEqual(rule_by_pays((work,)), ((0, 5), (0, 0), (0, 1), (0, 4), (0, 2), (0, 3)))

    def test_pays_that_differ_by_very_little(self):
        little = Fraction(1, 10 ** 300)
        company = (ONE, with_pays(ONE, [2 + little]), with_pays(ONE, [2 - little]))
        self.assertEqual(rule_by_pays(company), ((1, 0), (0, 0), (2, 0)))
        for share in SHARES:
            self.assertEqual(rule_by_numbers(company, share), ((1, 0), (0, 0), (2, 0)))

    def test_the_share_tells_which_is_first(self):
        # 0 now and 9 behind it, beside 2 for ever: only with a great share it is worth the way.
        company = ((((0, 1), ((1, (1, 1)),)), ((9, 1), ((1, (1, 1)),))), ONE)
        self.assertEqual(rule_by_numbers(company, (9, 10)), ((0, 1), (0, 0), (1, 0)))
        self.assertEqual(rule_by_numbers(company, (1, 10)), ((0, 1), (1, 0), (0, 0)))


class IsRule(PlainCase):
    def test_all_orders(self):
        for company in ((ONE,), (chain(3),), (ONE, chain(2)), (chain(2), chain(2)), (ONE, ONE, ONE)):
            for rule in permutations(all_pairs(company)):
                self.tells(True, is_rule, company, rule)

    def test_drawn_rules(self):
        draw = random.Random(42)
        for company in drawn_companies(43):
            self.tells(True, is_rule, company, drawn_rule(draw, company))

    def test_what_is_none(self):
        for company in drawn_companies(44) + [EXAMPLE, (ONE,), (ONE, ONE, ONE)]:
            for value in not_rules(company):
                self.tells(False, is_rule, company, value)

    def test_a_list_for_a_tuple_at_any_depth(self):
        for company in (EXAMPLE, (chain(2), ring(2), ONE)):
            for value in as_lists(rule_by_pays(company)):
                self.tells(False, is_rule, company, value)

    def test_all_tuples_of_pairs(self):
        company = (ONE, chain(2))
        pairs = [(0, 0), (0, 1), (1, 0), (1, 1), (1, 2), (2, 0)]
        for many in range(5):
            for value in product(pairs, repeat=many):
                self.tells(sorted(value) == [(0, 0), (1, 0), (1, 1)], is_rule, company, value)

    def test_deep_and_long_values(self):
        for value in (
            deep(20000), (deep(20000),) * 3, ((0, 0), (0, 1), deep(20000)), ((0, 0), (0, 1), (1, deep(20000))),
            ((0, 0), (0, 1), (deep(20000), 0)), ((0, 0),) * 100000, (0, 0) * 100000,
        ):
            self.assertIs(is_rule(EXAMPLE, value), False)


class RulePlan(PlainCase):
    def test_all_orders(self):
        for company in ((chain(2), ONE), (chain(2), chain(2)), (ONE, ONE, chain(2)), (chain(4),)):
            for rule in permutations(all_pairs(company)):
                self.assertEqual(self.call(rule_plan, company, rule), plan_by_rule(company, rule))

    def test_drawn_rules(self):
        draw = random.Random(45)
        for company in drawn_companies(46, 4):
            rule = drawn_rule(draw, company)
            told = self.call(rule_plan, company, rule)
            self.assertIs(type(told), tuple)
            self.assertEqual({type(work) for work in told}, {int})
            self.assertEqual(told, plan_by_rule(company, rule))

    def test_written_out(self):
        company = (chain(2), chain(2))
        self.assertEqual(rule_plan(company, ((0, 0), (1, 0), (0, 1), (1, 1))), (0, 0, 1, 0))
        self.assertEqual(rule_plan(company, ((1, 1), (0, 1), (1, 0), (0, 0))), (1, 1, 0, 1))
        self.assertEqual(rule_plan((ONE, ONE, ONE), ((2, 0), (0, 0), (1, 0))), (2,))

    def test_the_rule_by_numbers_goes_on_with_the_least_of_the_greatest(self):
        for company in drawn_companies(47) + equal_companies():
            for share in SHARES:
                rule = rule_by_numbers(company, share)
                self.assertEqual(rule_plan(company, rule), plan_by_numbers(company, share))


class Loss(PlainCase):
    def by_the_words(self, company, share, rule):
        best = best_values(company, share)
        values = plan_values(company, share, plan_by_rule(company, rule))
        for standing, most, value in zip(all_standings(company), best, values):
            if exact(value) < exact(most):
                return ("errs", standing, pair(exact(most) - exact(value)))
        return ("best",)

    def check(self, company, share, rule):
        told = self.call(loss, company, share, rule)
        self.assertEqual(told, self.by_the_words(company, share, rule))
        self.assertIs(type(told), tuple)
        return told

    def test_by_numbers_it_errs_nowhere(self):
        for company in drawn_companies(48, 2) + equal_companies() + great_companies():
            for share in SHARES[:2] + GREAT_SHARES:
                rule = rule_by_numbers(company, share)
                self.assertEqual(self.call(loss, company, share, rule), ("best",))

    def test_by_pays_and_drawn_rules(self):
        draw = random.Random(49)
        found = []
        for company in drawn_companies(50, 3) + equal_companies():
            for share in SHARES[:4]:
                found.append(self.check(company, share, rule_by_pays(company)))
                found.append(self.check(company, share, drawn_rule(draw, company)))
        self.assertGreater(found.count(("best",)), 20)
        self.assertGreater(len({told[1] for told in found if told != ("best",)}), 10)

    def test_all_rules_of_small_companies(self):
        for company in ((chain(2), ONE), (ring(2), chain(2)), (ONE, ONE, with_pays(chain(2), [1, 5]))):
            for rule in permutations(all_pairs(company)):
                self.check(company, (3, 4), rule)

    def test_great_and_tiny(self):
        draw = random.Random(51)
        for company in great_companies():
            for share in GREAT_SHARES:
                self.check(company, share, drawn_rule(draw, company))

    def test_it_may_err_only_where_the_numbers_differ(self):
        for company in ((ONE, ONE), (ONE,) * 3, (with_pays(ring(2), [5, 5]), with_pays(chain(3), [5] * 3))):
            draw = random.Random(52)
            for _ in range(5):
                self.assertEqual(self.call(loss, company, HALF, drawn_rule(draw, company)), ("best",))

    def test_the_least_standing(self):
        # It errs at both standings; the loss at the second one is the greater one.
        company = ((((5, 1), ((1, (1, 1)),)), ((9, 1), ((1, (1, 1)),))), ONE)
        rule = ((1, 0), (0, 0), (0, 1))
        self.assertEqual(loss(company, HALF, rule), ("errs", (0, 0), (10, 1)))
        # It errs only at the last one.
        rule = ((0, 0), (1, 0), (0, 1))
        company = ((((5, 1), ((0, (1, 1)),)), ((9, 1), ((1, (1, 1)),))), ONE)
        self.assertEqual(loss(company, HALF, rule), ("errs", (1, 0), (14, 1)))

    def test_a_very_little_loss(self):
        little = Fraction(1, 10 ** 300)
        company = (ONE, with_pays(ONE, [2 + little]))
        self.assertEqual(loss(company, HALF, ((0, 0), (1, 0))), ("errs", (0, 0), pair(2 * little)))
        self.assertEqual(loss(company, HALF, ((1, 0), (0, 0))), ("best",))


class Wrong(PlainCase):
    def test_wrong_values_alone_and_beside_wrong_later_ones(self):
        for company in (EXAMPLE, (ONE,), (chain(2), chain(3), chain(2)), (ring(2), ONE, ONE)):
            rule = tuple(all_pairs(company))
            companies, shares = (NoCompany, NOT_COMPANIES), (NoShare, NOT_SHARES)
            rules = (NoRule, not_rules(company))
            for function in (best_values, rule_by_numbers):
                self.refuses_in_order(function, (company, HALF), [companies, shares])
            self.refuses_in_order(rule_by_pays, (company,), [companies])
            self.refuses_in_order(rule_plan, (company, rule), [companies, rules])
            self.refuses_in_order(loss, (company, HALF, rule), [companies, shares, rules])
            for value in (rule, None, [], True):
                self.refuses_in_order(is_rule, (company, value), [companies])

    def test_where_the_answer_would_not_hang_on_it(self):
        # One work: there is just one plan. One standing and equal works: all plans are best.
        self.refuses(NoRule, rule_plan, (ONE,), ())
        self.refuses(NoRule, rule_plan, (ONE,), ((0, False),))
        self.refuses(NoRule, loss, (ONE,), HALF, ((0, 0), (0, 0)))
        self.refuses(NoRule, loss, (chain(2),), HALF, ((0, 0),))
        self.refuses(NoShare, loss, (ONE, ONE), (1, 1), ((0, 0), (1, 0)))
        self.refuses(NoShare, rule_by_numbers, (ONE,), (0, 1))
        self.refuses(NoRule, rule_plan, EXAMPLE, ((0, 0), (0, 1), (1, 0), (1, 1)))

    def test_a_refusal_leaves_nothing_behind(self):
        self.refuses(NoRule, loss, EXAMPLE, HALF, ((0, 0),))
        self.refuses(NoShare, best_values, EXAMPLE, (2, 1))
        self.assertEqual(best_values(EXAMPLE, HALF), ((10, 1), (18, 1)))


class Quick(PlainCase):
    def test_twelve_standings_and_six_states(self):
        full = (work_of([range(3)] * 3), work_of([range(2)] * 2), work_of([range(2)] * 2))
        wide = (work_of([range(6)] * 6), work_of([range(2)] * 2))
        for company in [full, wide] + great_companies()[-6:]:
            for share in SHARES:
                rule = rule_by_pays(company)
                self.is_quick(best_values, company, share)
                self.is_quick(rule_by_numbers, company, share)
                self.is_quick(rule_by_pays, company)
                self.is_quick(is_rule, company, rule)
                self.is_quick(rule_plan, company, rule)
                self.is_quick(loss, company, share, rule)


if __name__ == "__main__":
    unittest.main()
