"""Point 15, point 3 of choices, and nextwork/seen.py."""

import random
import unittest
from itertools import combinations, permutations, product

from nextwork.best import is_rule
from nextwork.seen import is_ring, makes, rule_of
from nextwork.wrongs import NoChoices, NoCompany, NoRule
from sample_companies import (
    EXAMPLE, NOT_COMPANIES, ONE, all_choices, all_pairs, all_standings, as_lists, choices_by, drawn_choices,
    drawn_companies, drawn_rule, equal_companies, made_by, not_choices, not_rules, plan_by_rule, ring_by_words,
)
from samples import PlainCase, chain, deep, ring

TWO_BY_TWO = (chain(2), ring(2))
SMALL = [
    (ONE,), (chain(3),), (ONE, ONE), (ONE, chain(2)), TWO_BY_TWO, (ONE, ONE, ONE), (chain(2), ONE, ONE),
    (chain(3), chain(2)), (ONE, chain(2), chain(2)),
]
THREE = (ONE, ONE, ONE)
# All four are needed for a ring: each leaves out just the pair that another one sets first.
AROUND = (((0, 0), 0), ((1, 0), 1), ((1, 1), 0), ((0, 1), 1))


def least_rule(company, choices):
    """The least rule that makes all choices, of all orders of the pairs, or None."""
    for rule in permutations(all_pairs(company)):
        if made_by(company, choices, rule):
            return rule
    return None


class Example(unittest.TestCase):
    def test_of_the_document(self):
        self.assertEqual(
            [
                rule_of(EXAMPLE, (((1, 0), 1),)), rule_of(EXAMPLE, (((0, 0), 0), ((0, 0), 1)))[0],
                is_ring(EXAMPLE, (((0, 0), 0), ((0, 0), 1)), (0, 1)),
            ],
            [("rule", ((0, 0), (1, 0), (0, 1))), "ring", True],
        )
        self.assertEqual(
            [
                makes(EXAMPLE, (((1, 0), 1),), ((0, 0), (1, 0), (0, 1))),
                makes(EXAMPLE, (((1, 0), 1),), ((0, 0), (0, 1), (1, 0))),
            ],
            [True, False],
        )


class RuleOf(PlainCase):
    def check_ring(self, company, choices, told):
        """A tuple of at most 20 numbers, of which the words for a ring hold."""
        self.assertEqual(told[0], "ring")
        self.assertEqual(len(told), 2)
        self.assertIs(type(told[1]), tuple)
        self.assertEqual({type(number) for number in told[1]}, {int})
        self.assertTrue(1 <= len(told[1]) <= 20)
        self.assertTrue(all(0 <= number < len(choices) for number in told[1]))
        self.assertTrue(ring_by_words(choices, told[1]))
        self.tells(True, is_ring, company, choices, told[1])

    def check(self, company, choices):
        told = self.call(rule_of, company, choices)
        self.assertIs(type(told), tuple)
        wanted = least_rule(company, choices)
        if wanted is None:
            self.check_ring(company, choices, told)
        else:
            self.assertEqual(told, ("rule", wanted))
        return told[0]

    def test_all_choices_of_two_works_of_two_states(self):
        found = []
        for many in range(5):
            for choices in combinations(all_choices(TWO_BY_TWO), many):
                found.append(self.check(TWO_BY_TWO, choices))
        self.assertGreater(found.count("rule"), 20)
        self.assertGreater(found.count("ring"), 20)

    def test_one_and_two_choices_of_small_companies(self):
        for company in SMALL:
            for many in (1, 2):
                for choices in product(all_choices(company), repeat=many):
                    if len(all_pairs(company)) < 5:
                        self.check(company, choices)

    def test_drawn_choices_of_small_companies(self):
        draw = random.Random(100)
        found = []
        for company in SMALL:
            for many in (3, 4, 5, 8):
                for _ in range(4):
                    found.append(self.check(company, drawn_choices(draw, company, many)))
                    rule = drawn_rule(draw, company)
                    found.append(self.check(company, choices_by(draw, company, rule, many)))
        self.assertGreater(min(found.count("rule"), found.count("ring")), 30)

    def test_choices_that_some_rule_makes(self):
        draw = random.Random(101)
        for company in drawn_companies(102, 3) + equal_companies():
            for many in (1, 5, 20):
                rule = drawn_rule(draw, company)
                choices = choices_by(draw, company, rule, many)
                kind, told = self.call(rule_of, company, choices)
                self.assertEqual(kind, "rule")
                self.tells(True, is_rule, company, told)
                self.tells(True, makes, company, choices, told)
                self.assertTrue(made_by(company, choices, told))
                self.assertLessEqual(told, rule)
                self.check_no_pair_moves_up(company, choices, told)

    def check_no_pair_moves_up(self, company, choices, rule):
        """With a lesser pair moved to an earlier place the choices are no longer made."""
        for early in range(len(rule)):
            for late in range(early + 1, len(rule)):
                if rule[late] < rule[early]:
                    rest = rule[:late] + rule[late + 1:]
                    self.assertFalse(made_by(company, choices, rest[:early] + (rule[late],) + rest[early:]))

    def test_choices_that_none_makes(self):
        draw = random.Random(103)
        rings = 0
        for company in drawn_companies(104, 4):
            for many in (2, 6, 12, 20):
                choices = drawn_choices(draw, company, many)
                told = self.call(rule_of, company, choices)
                if told[0] == "ring":
                    self.check_ring(company, choices, told)
                    rings += 1
                else:
                    self.assertTrue(made_by(company, choices, told[1]))
        self.assertGreater(rings, 60)

    def test_all_choices_there_are(self):
        """With two works both choices at one standing already make a ring."""
        for company in SMALL:
            choices = tuple(all_choices(company))
            told = self.call(rule_of, company, choices)
            if len(company) == 1:
                self.assertEqual(told, ("rule", tuple(all_pairs(company))))
            else:
                self.check_ring(company, choices, told)

    def test_longer_rings(self):
        # Each of the three leaves out the pairs of both others.
        choices = tuple(((0, 0, 0), work) for work in range(3))
        self.check_ring(THREE, choices, rule_of(THREE, choices))
        self.assertEqual(self.check(TWO_BY_TWO, AROUND), "ring")
        self.assertEqual(sorted(rule_of(TWO_BY_TWO, AROUND)[1]), [0, 1, 2, 3])
        for choices in combinations(AROUND, 3):
            self.assertEqual(self.check(TWO_BY_TWO, choices), "rule")
        # The ring stands behind choices that are in none.
        company = (chain(3), chain(2))
        choices = (((2, 0), 0), ((2, 1), 0)) + AROUND
        self.assertEqual(sorted(rule_of(company, choices)[1]), [2, 3, 4, 5])

    def test_no_choices(self):
        for company in SMALL + drawn_companies(106):
            self.assertEqual(self.call(rule_of, company, ()), ("rule", tuple(all_pairs(company))))

    def test_choices_that_stand_twice(self):
        draw = random.Random(107)
        for company in SMALL:
            choices = drawn_choices(draw, company, 3)
            once, twice = rule_of(company, choices), rule_of(company, choices + choices)
            self.assertEqual(once[0], twice[0])
            if once[0] == "rule":
                self.assertEqual(once, twice)
            else:
                self.check_ring(company, choices + choices, twice)
        one = (((0, 0), 1),)
        self.assertEqual(rule_of(EXAMPLE, one * 20), rule_of(EXAMPLE, one))

    def test_another_order_tells_the_same(self):
        draw = random.Random(108)
        for company in drawn_companies(109):
            for many in (4, 10, 20):
                for choices in (
                    drawn_choices(draw, company, many), choices_by(draw, company, drawn_rule(draw, company), many),
                ):
                    told = rule_of(company, choices)
                    for _ in range(3):
                        other = tuple(draw.sample(choices, many))
                        if told[0] == "rule":
                            self.assertEqual(rule_of(company, other), told)
                        else:
                            self.check_ring(company, other, rule_of(company, other))

    def test_twenty_and_more(self):
        for company in SMALL:
            choice = ((0,) * len(company), 0)
            self.assertEqual(self.call(rule_of, company, (choice,) * 20)[0], "rule")
            for many in (21, 22, 100):
                self.refuses(NoChoices, rule_of, company, (choice,) * many)

    def test_written_out(self):
        self.assertEqual(
            rule_of(TWO_BY_TWO, (((0, 0), 1), ((1, 0), 0))), ("rule", ((0, 1), (1, 0), (0, 0), (1, 1))),
        )
        self.assertEqual(rule_of(TWO_BY_TWO, (((0, 0), 1),)), ("rule", ((0, 1), (1, 0), (0, 0), (1, 1))))
        self.assertEqual(rule_of(TWO_BY_TWO, (((1, 1), 1),)), ("rule", ((0, 0), (1, 0), (1, 1), (0, 1))))
        self.assertEqual(
            rule_of(THREE, (((0, 0, 0), 2),)), ("rule", ((2, 0), (0, 0), (1, 0))),
        )
        self.assertEqual(rule_of(THREE, (((0, 0, 0), 1),)), ("rule", ((1, 0), (0, 0), (2, 0))))

    def test_the_same_again(self):
        first = rule_of(TWO_BY_TWO, AROUND)
        rule_of(TWO_BY_TWO, AROUND[:2])
        self.assertEqual(rule_of(TWO_BY_TWO, AROUND), first)


class Makes(PlainCase):
    def test_all_rules_and_choices_of_small_companies(self):
        for company in SMALL[:7]:
            for rule in permutations(all_pairs(company)):
                plan = dict(zip(all_standings(company), plan_by_rule(company, rule)))
                for standing, work in all_choices(company):
                    self.tells(plan[standing] == work, makes, company, ((standing, work),), rule)

    def test_several_choices(self):
        draw = random.Random(110)
        found = []
        for company in drawn_companies(111, 2):
            for many in (2, 3, 20):
                rule = drawn_rule(draw, company)
                made = choices_by(draw, company, rule, many)
                self.tells(True, makes, company, made, rule)
                # All but one are made, at each place.
                for at in range(many):
                    standing, work = made[at]
                    for other in range(len(company)):
                        choices = made[:at] + ((standing, other),) + made[at + 1:]
                        self.tells(other == work, makes, company, choices, rule)
                choices = drawn_choices(draw, company, many)
                found.append(made_by(company, choices, rule))
                self.tells(found[-1], makes, company, choices, rule)
        self.assertGreater(min(found.count(True), found.count(False)), 10)

    def test_no_choices_are_made_by_all(self):
        for company in SMALL[:6]:
            for rule in permutations(all_pairs(company)):
                self.tells(True, makes, company, (), rule)


class IsRing(PlainCase):
    def test_all_short_tuples(self):
        yes = 0
        for company, choices in (
            (TWO_BY_TWO, AROUND), (THREE, tuple(((0, 0, 0), work) for work in range(3))),
            (TWO_BY_TWO, (((0, 0), 0), ((0, 0), 1), ((0, 1), 1), ((0, 0), 0))),
            (EXAMPLE, (((0, 0), 0), ((1, 0), 1), ((0, 0), 1))),
        ):
            for many in range(1, 5):
                for value in product(range(-1, len(choices) + 1), repeat=many):
                    wanted = all(0 <= k < len(choices) for k in value) and ring_by_words(choices, value)
                    self.tells(wanted, is_ring, company, choices, value)
                    yes += wanted
        self.assertGreater(yes, 20)

    def test_drawn_tuples(self):
        draw = random.Random(112)
        found = []
        for company in drawn_companies(113, 2):
            choices = drawn_choices(draw, company, 8)
            for _ in range(40):
                value = tuple(draw.randrange(8) for _ in range(draw.randint(1, 4)))
                found.append(ring_by_words(choices, value))
                self.tells(found[-1], is_ring, company, choices, value)
        self.assertGreater(min(found.count(True), found.count(False)), 50)

    def test_a_ring_of_one_number(self):
        """A choice never leaves out the pair that it sets first."""
        for company in SMALL:
            for choice in all_choices(company):
                self.tells(False, is_ring, company, (choice,), (0,))

    def test_longer_than_twenty(self):
        for many in (6, 11, 50, 5000):
            self.tells(True, is_ring, TWO_BY_TWO, AROUND, self.around() * many)
            self.tells(False, is_ring, TWO_BY_TWO, AROUND, self.around() * many + (self.around()[0],))
        both = (((0, 0), 0), ((0, 0), 1))
        for many in range(1, 45):
            value = tuple(k % 2 for k in range(many))
            self.tells(many % 2 == 0, is_ring, EXAMPLE, both, value)

    def around(self):
        return rule_of(TWO_BY_TWO, AROUND)[1]

    def test_the_way_around_matters(self):
        self.tells(True, is_ring, TWO_BY_TWO, AROUND, self.around())
        self.tells(False, is_ring, TWO_BY_TWO, AROUND, self.around()[::-1])
        for turn in range(4):
            self.tells(True, is_ring, TWO_BY_TWO, AROUND, self.around()[turn:] + self.around()[:turn])

    def test_what_is_no_tuple_of_numbers_of_choices(self):
        both = (((0, 0), 0), ((0, 0), 1))
        self.tells(True, is_ring, EXAMPLE, both, (0, 1))
        for value in (
            (), [], [0, 1], None, True, False, 0, 1, "", "01", (0, 2), (2, 0), (-2, -1), (0, -1), (-1, 0), (0, 1, 2),
            (False, True), (0, True), (False, 1), (None, 1), ("0", "1"), ((0,), (1,)), ((0, 1),), ([0], 1), (0, [1]),
            (0, 10 ** 30), (0, 1, None), (0, 1, True), both, ((0, 1), (0, 1)),
        ):
            self.tells(False, is_ring, EXAMPLE, both, value)
        for value in as_lists((0, 1)):
            self.tells(False, is_ring, EXAMPLE, both, value)

    def test_without_choices(self):
        for value in ((), (0,), (0, 0), None, [], True):
            self.tells(False, is_ring, EXAMPLE, (), value)

    def test_deep_and_long_values(self):
        both = (((0, 0), 0), ((0, 0), 1))
        for value in (deep(20000), (deep(20000),), (0, deep(20000)), (0,) * 100000, (0, 1) * 50000 + (9,)):
            self.assertIs(is_ring(EXAMPLE, both, value), False)
        self.assertIs(is_ring(EXAMPLE, both, (0, 1) * 50000), True)

    def test_there_is_one_exactly_if_no_rule_makes_all(self):
        for many in (2, 3, 4):
            for choices in list(combinations(all_choices(TWO_BY_TWO), many))[::2]:
                found = any(
                    is_ring(TWO_BY_TWO, choices, value)
                    for size in range(1, many + 1) for value in permutations(range(many), size)
                )
                self.assertEqual(found, least_rule(TWO_BY_TWO, choices) is None)


class Wrong(PlainCase):
    def test_wrong_values_alone_and_beside_wrong_later_ones(self):
        for company in (EXAMPLE, (ONE,), (chain(2), chain(3), chain(2))):
            rule = tuple(all_pairs(company))
            wrong = [(NoCompany, NOT_COMPANIES), (NoChoices, not_choices(company)), (NoRule, not_rules(company))]
            choices = ((((0,) * len(company)), 0),)
            for good in (choices, choices * 20, ()):
                self.refuses_in_order(rule_of, (company, good), wrong[:2])
                for value in ((), None, (0,), True):
                    self.refuses_in_order(is_ring, (company, good, value), wrong[:2])
            self.refuses_in_order(makes, (company, choices, rule), wrong)

    def test_where_the_answer_would_not_hang_on_it(self):
        # One work: each rule makes each choice; no choices are made by all rules.
        self.refuses(NoChoices, rule_of, (ONE,), (((0,), False),))
        self.refuses(NoChoices, rule_of, (ONE,), (((0,), 0),) * 21)
        self.refuses(NoChoices, makes, (ONE,), (((0,), 1),), ((0, 0),))
        self.refuses(NoRule, makes, (ONE,), (((0,), 0),), ((0, 0), (0, 0)))
        self.refuses(NoRule, makes, EXAMPLE, (), ())
        self.refuses(NoChoices, is_ring, EXAMPLE, (((0, 0), 2),), ())
        self.refuses(NoChoices, is_ring, EXAMPLE, [], None)

    def test_a_list_for_a_tuple_at_any_depth(self):
        for value in as_lists((((0, 0), 1), ((1, 0), 0))):
            self.refuses(NoChoices, rule_of, EXAMPLE, value)
            self.refuses(NoChoices, makes, EXAMPLE, value, ((0, 0), (0, 1), (1, 0)))
            self.refuses(NoChoices, is_ring, EXAMPLE, value, (0, 1))

    def test_a_refusal_leaves_nothing_behind(self):
        self.refuses(NoChoices, rule_of, EXAMPLE, [((1, 0), 1)])
        self.assertEqual(rule_of(EXAMPLE, (((1, 0), 1),)), ("rule", ((0, 0), (1, 0), (0, 1))))


class Quick(PlainCase):
    def test_twenty_choices(self):
        draw = random.Random(114)
        for company in drawn_companies(115):
            rule = drawn_rule(draw, company)
            for choices in (drawn_choices(draw, company, 20), choices_by(draw, company, rule, 20)):
                self.is_quick(rule_of, company, choices)
                self.is_quick(makes, company, choices, rule)
                self.is_quick(is_ring, company, choices, tuple(range(20)) * 100)


if __name__ == "__main__":
    unittest.main()
