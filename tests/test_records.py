"""Point 17 and nextwork/records.py."""

import random
import unittest
from fractions import Fraction

from nextwork.best import best_values, rule_by_numbers, rule_by_pays, rule_plan
from nextwork.companies import better_at, plan_values
from nextwork.numbers import numbers, states_above, states_not_less
from nextwork.records import judge
from nextwork.seen import is_ring, makes, rule_of
from nextwork.shown import heights, is_ceiling, is_floor
from nextwork.wrongs import NoRecord
from sample_companies import (
    EXAMPLE, HALF, NOT_COMPANIES, ONE, all_pairs, all_standings, as_lists, choices_by, drawn_choices,
    drawn_companies, drawn_plan, drawn_rule, equal_companies, first_better, great_companies, not_choices,
    not_plans, not_rules, not_standings, plan_by_numbers,
)
from samples import (
    NOT_FRACTIONS, NOT_SHARES, NOT_WORKS, SHARES, PlainCase, chain, deep, drawn_works, exact, great_works,
    not_sets, not_states, pair, ring, sets_of, work_of,
)

WORK = (((0, 1), ((1, (1, 2)), (2, (1, 2)))), ((6, 1), ((1, (1, 1)),)), ((1, 1), ((2, (1, 1)),)))
# Nothing of them is any part of a record.
OTHER_VALUES = [
    True, False, None, "", "floor", "text", [], [0], [[0, 1]], [(0, 1)], ((),), ((0,),), (None,), (True, False),
    ("0", "1"), 10 ** 30, -1, (-1,), ((0, 1), (0, 1), (0, 1), (0, 1), (0, 1), (0, 1), (0, 1)),
]
LITTLE = Fraction(1, 10 ** 300)


class Example(unittest.TestCase):
    def test_of_the_document(self):
        work = (((3, 1), ((1, (1, 1)),)), ((0, 1), ((1, (1, 1)),)))
        self.assertEqual(
            [
                judge(("floor", work, (1, 2), 0, (3, 1), ())), judge(("floor", work, (1, 2), 0, (3, 1), (0, 1))),
                judge(("ceiling", work, (1, 2), 0, (3, 1), ((0, 1), (0, 1)))),
            ],
            [("right",), ("wrong", 4), ("right",)],
        )
        self.assertEqual(
            [
                judge(("best", (work,), (1, 2), (0, 0), ((3, 1), (0, 1)))),
                judge(("best", (work,), (1, 2), (0, 0), ((3, 1), (1, 1)))), judge(("ring", (work,), (), (0,))),
            ],
            [("right",), ("wrong", 3), ("wrong", 2)],
        )


class RecordCase(PlainCase):
    def told(self, record):
        answer = self.call(judge, record)
        self.assertIs(type(answer), tuple)
        self.assertEqual([type(entry) for entry in answer], [str, int][:len(answer)])
        return answer

    def right(self, *record):
        self.assertEqual(self.told(record), ("right",), record)

    def wrong(self, number, *record):
        self.assertEqual(self.told(record), ("wrong", number), record)

    def first_of_all(self, record, conditions):
        """Each wrong entry, alone and beside wrong later ones, is told by its own condition.

        The conditions have, for each entry but the first, the number of the condition and the wrong values.
        """
        self.right(*record)
        for at, (number, values) in enumerate(conditions, 1):
            for turn, value in enumerate(values):
                one = record[:at] + (value,) + record[at + 1:]
                self.wrong(number, *one)
                for later in range(at + 1, len(record)):
                    _, others = conditions[later - 1]
                    other = others[turn % len(others)]
                    self.wrong(number, *record[:at], value, *record[at + 1:later], other, *record[later + 1:])
                    one = one[:later] + (other,) + one[later + 1:]
                self.wrong(number, *one)


class NoRecords(PlainCase):
    def test_no_tuple_of_one_of_the_forms(self):
        for value in OTHER_VALUES + [
            (), ("floor",), ("ring", EXAMPLE), ("worth", WORK, HALF, 0), ("Floor", WORK, HALF, 0, (1, 1), ()),
            (True, 1, 2, 3), (None,) * 6, (1,) * 5, (("floor",), WORK, HALF, 0, (1, 1), ()),
            (["ring"], EXAMPLE, (), (0,)), ("", EXAMPLE, (), (0,)), "ring", "rings", ["ring", EXAMPLE, (), (0,)],
            list("ring"), ("ring ", EXAMPLE, (), (0,)), ({}, 1, 2, 3),
        ]:
            self.refuses(NoRecord, judge, value)

    def test_the_length(self):
        for form, many in (("floor", 6), ("ceiling", 6), ("best", 5), ("better", 7), ("rule", 4), ("ring", 4)):
            for length in range(12):
                record = ((form,) + (None,) * length)[:length]
                if length == many:
                    self.assertEqual(judge(record), ("wrong", 0))
                    self.refuses(NoRecord, judge, list(record))
                    self.refuses(NoRecord, judge, record + ((),))
                else:
                    self.refuses(NoRecord, judge, record)

    def test_deep_and_long_values(self):
        for value in (deep(20000), ("ring",) * 100000, (deep(20000),) * 4, ("worth", deep(20000), 1, 2)):
            with self.assertRaises(NoRecord):
                judge(value)
        for form, many in (("floor", 6), ("best", 5), ("better", 7), ("rule", 4)):
            self.assertEqual(judge((form,) + (deep(20000),) * (many - 1)), ("wrong", 0))


class Floor(RecordCase):
    def test_each_condition(self):
        for work, bound in ((WORK, (2, 1)), (ONE, (2, 1)), (chain(6), (0, 1))):
            self.first_of_all(
                ("floor", work, HALF, 0, bound, states_above(work, HALF, 0)),
                [(0, NOT_WORKS), (0, NOT_SHARES), (1, not_states(work)), (2, NOT_FRACTIONS),
                 (3, not_sets(work) + OTHER_VALUES)],
            )

    def test_it_is_a_floor(self):
        found = []
        for work in drawn_works(140, (1, 2, 3), 2):
            for state, number in enumerate(numbers(work, (3, 4))):
                for bound in (number, pair(exact(number) + LITTLE), pair(exact(number) - 1)):
                    for states in sets_of(len(work)):
                        record = ("floor", work, (3, 4), state, bound, states)
                        found.append(is_floor(*record[1:]))
                        self.assertEqual(self.told(record), ("right",) if found[-1] else ("wrong", 4))
        self.assertGreater(min(found.count(True), found.count(False)), 100)

    def test_what_the_program_tells(self):
        for work in drawn_works(141, (1, 3, 6), 1) + great_works():
            for share in SHARES[:1] + SHARES[-2:]:
                for state, number in enumerate(numbers(work, share)):
                    self.right("floor", work, share, state, number, states_above(work, share, state))
                    self.right("floor", work, share, state, number, states_not_less(work, share, state))
                    more = pair(exact(number) + LITTLE)
                    self.wrong(4, "floor", work, share, state, more, states_above(work, share, state))


class Ceiling(RecordCase):
    def test_each_condition(self):
        for work, bound in ((WORK, (2, 1)), (ONE, (2, 1)), (chain(6), (100, 1))):
            good = heights(work, HALF, bound)
            self.first_of_all(
                ("ceiling", work, HALF, 0, bound, good),
                [(0, NOT_WORKS), (0, NOT_SHARES), (1, not_states(work)), (2, NOT_FRACTIONS),
                 (3, self.not_heights(good) + OTHER_VALUES)],
            )

    def not_heights(self, good):
        """What is no tuple of fractions, one for each state and none less than 0."""
        found = [list(good), good + ((0, 1),), good[1:], good + good, (good,)] + as_lists(good)
        for at in range(len(good)):
            for entry in NOT_FRACTIONS + [(-1, 1), (-1, 10 ** 300)]:
                found.append(good[:at] + (entry,) + good[at + 1:])
        return found

    def test_it_is_a_ceiling(self):
        draw = random.Random(142)
        found = []
        for work in drawn_works(143, (1, 2, 3), 2):
            for state, number in enumerate(numbers(work, (3, 4))):
                for bound in (number, pair(exact(number) - LITTLE), pair(exact(number) + 1)):
                    told = heights(work, (3, 4), bound)
                    more = tuple(pair(exact(one) + draw.randint(0, 2)) for one in told)
                    for value in (told, more, ((0, 1),) * len(work)):
                        record = ("ceiling", work, (3, 4), state, bound, value)
                        found.append(is_ceiling(*record[1:]))
                        self.assertEqual(self.told(record), ("right",) if found[-1] else ("wrong", 4))
        self.assertGreater(min(found.count(True), found.count(False)), 30)

    def test_what_the_program_tells(self):
        for work in drawn_works(144, (1, 3, 6), 1) + great_works():
            for share in SHARES[:1] + SHARES[-2:]:
                for state, number in enumerate(numbers(work, share)):
                    self.right("ceiling", work, share, state, number, heights(work, share, number))
                    less = pair(exact(number) - LITTLE)
                    self.wrong(4, "ceiling", work, share, state, less, heights(work, share, less))


def not_values(good):
    """What is no tuple of fractions, one for each standing."""
    found = [list(good), good + ((0, 1),), good[1:], good + good, (good,)] + as_lists(good) + OTHER_VALUES
    for at in range(len(good)):
        for entry in NOT_FRACTIONS:
            found.append(good[:at] + (entry,) + good[at + 1:])
    return [value for value in found if value != good]


class Values(RecordCase):
    """The records "best" and "better"."""

    def test_each_condition_of_best(self):
        for company in (EXAMPLE, (ONE,), (chain(2), ring(2), ONE)):
            plan = plan_by_numbers(company, HALF)
            values = plan_values(company, HALF, plan)
            self.first_of_all(
                ("best", company, HALF, plan, values),
                [(0, NOT_COMPANIES), (0, NOT_SHARES), (1, not_plans(company)), (2, not_values(values))],
            )

    def test_each_condition_of_better(self):
        for company in (EXAMPLE, (ONE, ring(2), chain(2)), (chain(3), ONE)):
            plan = self.bad_plan(company)
            values = plan_values(company, HALF, plan)
            standing, work = better_at(company, HALF, plan)
            self.first_of_all(
                ("better", company, HALF, plan, values, standing, work),
                [(0, NOT_COMPANIES), (0, NOT_SHARES), (1, not_plans(company)), (2, not_values(values)),
                 (4, not_standings(company)),
                 (4, [len(company), -1, True, False, None, "0", (0,), [0], (), 10 ** 30])],
            )

    def bad_plan(self, company):
        """A plan that is not best."""
        draw = random.Random(145)
        plan = drawn_plan(draw, company)
        while better_at(company, HALF, plan) is None:
            plan = drawn_plan(draw, company)
        return plan

    def test_other_values_than_those_of_the_plan(self):
        for company in drawn_companies(146) + [(ONE,)]:
            plan = plan_by_numbers(company, (3, 4))
            values = plan_values(company, (3, 4), plan)
            standing = all_standings(company)[-1]
            for at, value in enumerate(values):
                for other in (exact(value) + LITTLE, exact(value) - 1, exact(value) + 10 ** 40):
                    changed = values[:at] + (pair(other),) + values[at + 1:]
                    self.wrong(3, "best", company, (3, 4), plan, changed)
                    self.wrong(3, "better", company, (3, 4), plan, changed, standing, 0)
                    # Of a wrong standing or work nothing is said: the values come first.
                    self.wrong(3, "better", company, (3, 4), plan, changed, None, 7)
            # The values of another share.
            if set(values) != {(0, 1)}:
                self.wrong(3, "best", company, (2, 3), plan, values)

    def test_by_the_words(self):
        draw = random.Random(147)
        found = []
        for company in drawn_companies(148, 2) + equal_companies():
            share = draw.choice(SHARES[:4])
            plan = draw.choice([drawn_plan(draw, company), plan_by_numbers(company, share)])
            values = plan_values(company, share, plan)
            none = first_better(company, share, values) is None
            found.append(none)
            self.assertEqual(
                self.told(("best", company, share, plan, values)), ("right",) if none else ("wrong", 4),
            )
            better = 0
            for standing in all_standings(company):
                for work in range(len(company)):
                    told = self.told(("better", company, share, plan, values, standing, work))
                    self.assertIn(told, [("right",), ("wrong", 5)])
                    better += told == ("right",)
            self.assertEqual(better == 0, none)
        self.assertGreater(min(found.count(True), found.count(False)), 10)

    def test_better_is_asked_at_the_told_standing_for_the_told_work(self):
        # 3 once, beside 2 for ever; the plan goes on with the second work, or with the first one for ever.
        for plan, values, right in (
            ((1, 1), ((4, 1), (4, 1)), [((0, 0), 0)]),
            ((0, 0), ((3, 1), (0, 1)), [((0, 0), 1), ((1, 0), 1)]),
            ((0, 1), ((5, 1), (4, 1)), []),
        ):
            for standing in ((0, 0), (1, 0)):
                for work in (0, 1):
                    record = ("better", EXAMPLE, HALF, plan, values, standing, work)
                    wanted = ("right",) if (standing, work) in right else ("wrong", 5)
                    self.assertEqual(self.told(record), wanted)
            self.assertEqual(
                self.told(("best", EXAMPLE, HALF, plan, values)), ("wrong", 4) if right else ("right",),
            )

    def test_what_the_program_tells(self):
        draw = random.Random(149)
        for company in drawn_companies(150) + great_companies():
            for share in SHARES[:1] + SHARES[-2:]:
                plan = rule_plan(company, rule_by_numbers(company, share))
                self.right("best", company, share, plan, best_values(company, share))
                plan = drawn_plan(draw, company)
                told = better_at(company, share, plan)
                if told is not None:
                    self.right("better", company, share, plan, plan_values(company, share, plan), *told)
                    self.wrong(4, "best", company, share, plan, plan_values(company, share, plan))


class Choices(RecordCase):
    """The records "rule" and "ring"."""

    def test_each_condition_of_rule(self):
        draw = random.Random(151)
        for company in (EXAMPLE, (ONE,), (chain(2), ring(2), ONE)):
            rule = drawn_rule(draw, company)
            for many in (0, 1, 20):
                self.first_of_all(
                    ("rule", company, choices_by(draw, company, rule, many), rule),
                    [(0, NOT_COMPANIES), (1, not_choices(company)), (2, not_rules(company))],
                )

    def test_each_condition_of_ring(self):
        for company in (EXAMPLE, (ONE, ONE, ONE), (chain(2), ring(2), ONE)):
            start = (0,) * len(company)
            self.first_of_all(
                ("ring", company, ((start, 0), (start, 1)), (1, 0)),
                [(0, NOT_COMPANIES), (1, not_choices(company)),
                 (2, [(), (2,), (0, 2), (-1,), (0, -1), (0, True), (False, 1), [0, 1], "01", (None,), ((0, 1),), 0])],
            )
            for value in OTHER_VALUES:
                self.wrong(2, "ring", company, ((start, 0), (start, 1)), value)

    def test_the_last_condition(self):
        draw = random.Random(152)
        found = []
        for company in drawn_companies(153, 2) + equal_companies():
            for many in (1, 3, 8):
                rule = drawn_rule(draw, company)
                choices = draw.choice([drawn_choices(draw, company, many), choices_by(draw, company, rule, many)])
                made = makes(company, choices, rule)
                self.assertEqual(self.told(("rule", company, choices, rule)), ("right",) if made else ("wrong", 3))
                kind, value = rule_of(company, choices)
                if kind == "rule" or draw.random() < 0.3:
                    value = tuple(draw.randrange(many) for _ in range(draw.randint(1, 3)))
                closed = is_ring(company, choices, value)
                self.assertEqual(self.told(("ring", company, choices, value)), ("right",) if closed else ("wrong", 3))
                found.append((made, closed))
        for at in (0, 1):
            kinds = [one[at] for one in found]
            self.assertGreater(min(kinds.count(True), kinds.count(False)), 5)

    def test_what_the_program_tells(self):
        draw = random.Random(154)
        kinds = []
        for company in drawn_companies(155, 2):
            for many in (0, 1, 5, 20):
                for choices in (
                    drawn_choices(draw, company, many), choices_by(draw, company, drawn_rule(draw, company), many),
                ):
                    kind, told = rule_of(company, choices)
                    kinds.append(kind)
                    self.right(kind, company, choices, told)
        self.assertGreater(min(kinds.count("rule"), kinds.count("ring")), 30)

    def test_no_choices(self):
        self.right("rule", EXAMPLE, (), tuple(all_pairs(EXAMPLE)))
        self.right("rule", EXAMPLE, (), rule_by_pays(EXAMPLE))
        for value in ((), (0,), (0, 0)):
            self.wrong(2, "ring", EXAMPLE, (), value)


class Quick(RecordCase):
    def test_all_forms(self):
        draw = random.Random(156)
        full = (work_of([range(3)] * 3), work_of([range(2)] * 2), work_of([range(2)] * 2))
        for company in [full, (work_of([range(6)] * 6), work_of([range(2)] * 2))] + great_companies()[-6:]:
            for share in SHARES:
                work = company[0]
                bound = numbers(work, share)[0]
                plan = drawn_plan(draw, company)
                values = plan_values(company, share, plan)
                choices = drawn_choices(draw, company, 20)
                for record in (
                    ("floor", work, share, 0, bound, states_above(work, share, 0)),
                    ("ceiling", work, share, 0, bound, heights(work, share, bound)),
                    ("best", company, share, plan, values),
                    ("better", company, share, plan, values, all_standings(company)[-1], 0),
                    ("rule", company, choices, drawn_rule(draw, company)),
                    ("ring", company, choices, tuple(range(20)) * 20),
                ):
                    self.is_quick(judge, record)


if __name__ == "__main__":
    unittest.main()
