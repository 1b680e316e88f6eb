"""Point 16 and nextwork/desk.py."""

import random
import unittest
from fractions import Fraction

from nextwork.best import best_values
from nextwork.desk import Desk
from nextwork.numbers import numbers
from nextwork.wrongs import (
    NoChoice, NoCompany, NoFraction, NoMark, NoMove, NoShare, NoStanding, NoState, TooMany, WorkError,
)
from sample_companies import (
    HALF, NOT_COMPANIES, ONE, all_standings, brought, drawn_companies, equal_companies, great_companies,
    not_standings, value_table,
)
from samples import (
    NOT_FRACTIONS, NOT_SHARES, SHARES, PlainCase, chain, deep, exact, not_states, pair, ring, with_pays, work_of,
)

EXAMPLE = ((((3, 1), ((1, (1, 1)),)), ((0, 1), ((1, (1, 1)),))), (((2, 1), ((0, (1, 1)),)),))
# One may stay at each state or move to the other one, in both works.
FREE = (with_pays(work_of([[0, 1], [0, 1]]), [4, 1]), with_pays(work_of([[0, 1], [1]]), [3, 2]))
OTHER_VALUES = [True, False, None, "", "0", "1", (), [], (0,), [0], (1, 1), [[0]], 10 ** 30, -1]


def seen(desk, works):
    """All that a desk tells."""
    return [
        desk.company(), desk.standing(), desk.log(), desk.earned(), desk.next_work(), desk.worth_now(),
        [desk.cost_of(work) for work in range(works)], desk.marks(),
    ]


class Model:
    """A desk by the words, with numbers of Python's own."""

    def __init__(self, company, share, standing):
        self.company, self.share, self.standing = company, share, standing
        self.log, self.pays, self.marks = [], [], []

    def go(self, work, state):
        pay = self.company[work][self.standing[work]][0]
        self.standing = tuple(state if at == work else one for at, one in enumerate(self.standing))
        self.log = self.log + [(work, state)]
        self.pays = self.pays + [pay]
        return pay

    def set_pay(self, work, state, pay):
        works = [list(one) for one in self.company]
        works[work][state] = (pay, works[work][state][1])
        self.company = tuple(tuple(one) for one in works)

    def mark(self):
        self.marks.append((self.company, self.standing, self.log, self.pays))
        return len(self.marks) - 1

    def back(self, number):
        self.company, self.standing, self.log, self.pays = self.marks[number]
        del self.marks[number + 1:]

    def seen(self):
        share = exact(self.share)
        earned = sum((exact(pay) * share ** at for at, pay in enumerate(self.pays)), Fraction(0))
        told = [exact(numbers(work, self.share)[state]) for work, state in zip(self.company, self.standing)]
        best = value_table(self.company, best_values(self.company, self.share))
        worth = best[self.standing]
        costs = [
            pair(worth - brought(self.company, self.share, self.standing, work, best))
            for work in range(len(self.company))
        ]
        return [
            self.company, self.standing, self.log, pair(earned), told.index(max(told)), pair(worth), costs,
            list(range(len(self.marks))),
        ]


class DeskCase(PlainCase):
    def told(self, desk, works):
        """All that the desk tells, after a look at the kinds of the values."""
        answer = seen(desk, works)
        company, standing, log, earned, work, worth, costs, marks = answer
        self.assertEqual([type(company), type(standing), type(log), type(marks)], [tuple, tuple, list, list])
        self.assertEqual({type(step) for step in log} | {tuple}, {tuple})
        self.assertIs(type(work), int)
        for value in [earned, worth] + costs:
            self.is_a_fraction(value)
        # What a work costs is never less than 0, and the one to go on with costs nothing.
        self.assertGreaterEqual(min(exact(cost) for cost in costs), 0)
        self.assertEqual(costs[work], (0, 1))
        return answer

    def stays(self, desk, error, method, *arguments):
        """The call is refused, and the desk is as it was."""
        works = len(desk.company())
        before = repr(seen(desk, works))
        self.refuses(error, method, *arguments)
        self.assertEqual(repr(seen(desk, works)), before)

    def keeps(self, error, field, value, method, *arguments):
        """The call is refused with the error, which keeps the value itself in its field."""
        try:
            method(*arguments)
        except WorkError as caught:
            self.assertIs(type(caught), error)
            self.assertIs(getattr(caught, field), value)
        else:
            self.fail("not refused")


class Example(unittest.TestCase):
    def test_of_the_document(self):
        desk = Desk(EXAMPLE, HALF, (0, 0))
        self.assertEqual(
            [
                desk.next_work(), desk.worth_now(), desk.cost_of(1), desk.mark(), desk.go(0, 1), desk.go(1, 0),
                desk.earned(), desk.log(),
            ],
            [0, (5, 1), (1, 2), 0, (3, 1), (2, 1), (4, 1), [(0, 1), (1, 0)]],
        )
        self.assertEqual(
            [
                desk.set_pay(0, 1, (5, 1)), desk.next_work(), desk.worth_now(), desk.back(0), desk.standing(),
                desk.worth_now(),
            ],
            [None, 0, (10, 1), None, (0, 0), (5, 1)],
        )


class New(DeskCase):
    def test_without_steps(self):
        for company in drawn_companies(120) + equal_companies():
            for standing in all_standings(company)[::3]:
                desk = self.call(Desk, company, (2, 3), standing)
                told = self.told(desk, len(company))
                self.assertEqual(told[:4], [company, standing, [], (0, 1)])
                self.assertEqual(told[7], [])
                self.assertEqual(told, Model(company, (2, 3), standing).seen())

    def test_refused_in_the_order_of_the_arguments(self):
        for company in (EXAMPLE, (ONE,), (chain(2), chain(3), chain(2))):
            good = (company, HALF, (0,) * len(company))
            self.refuses_in_order(
                Desk, good,
                [(NoCompany, NOT_COMPANIES), (NoShare, NOT_SHARES), (NoStanding, not_standings(company))],
            )


class Going(DeskCase):
    def test_the_pay_is_counted_whole_and_later_ones_less(self):
        desk = Desk(FREE, (1, 3), (0, 0))
        self.assertEqual([desk.go(0, 1), desk.earned()], [(4, 1), (4, 1)])
        self.assertEqual([desk.go(1, 1), desk.earned()], [(3, 1), (5, 1)])
        self.assertEqual([desk.go(0, 0), desk.earned()], [(1, 1), (46, 9)])
        self.assertEqual([desk.go(1, 1), desk.earned()], [(2, 1), (140, 27)])
        self.assertEqual(desk.log(), [(0, 1), (1, 1), (0, 0), (1, 1)])
        self.assertEqual(desk.standing(), (0, 1))

    def test_only_this_work_moves(self):
        desk = Desk((FREE[0], FREE[0], ONE), HALF, (0, 0, 0))
        desk.go(1, 1)
        self.assertEqual(desk.standing(), (0, 1, 0))
        desk.go(0, 0)
        self.assertEqual(desk.standing(), (0, 1, 0))
        desk.go(0, 1)
        self.assertEqual(desk.standing(), (1, 1, 0))

    def test_sixty_steps_and_one_more(self):
        desk = Desk(FREE, (9, 10), (0, 0))
        model = Model(FREE, (9, 10), (0, 0))
        for step in range(60):
            work, state = step % 2, 1 if step % 2 else step // 2 % 2
            self.assertEqual(desk.go(work, state), model.go(work, state))
        self.assertEqual(self.told(desk, 2), model.seen())
        self.assertEqual(len(desk.log()), 60)
        for work, state in ((0, 0), (0, 1), (1, 1)):
            self.stays(desk, TooMany, desk.go, work, state)
            try:
                desk.go(work, state)
            except TooMany as error:
                self.assertEqual(error.limit, 60)
        # Which error comes first.
        self.stays(desk, NoMove, desk.go, 1, 0)
        self.stays(desk, NoMove, desk.go, 0, True)
        self.stays(desk, NoChoice, desk.go, 2, 0)
        # Changes of pays and marks are no steps.
        desk.set_pay(0, 0, (7, 1))
        self.assertEqual([desk.mark(), desk.earned()], [0, model.seen()[3]])

    def test_fifty_nine_steps_and_one_more(self):
        desk = Desk((ONE,), HALF, (0,))
        for step in range(60):
            self.assertEqual(len(desk.log()), step)
            self.assertEqual(desk.go(0, 0), (2, 1))
        self.assertEqual(desk.earned(), pair(4 - Fraction(4, 2 ** 60)))
        self.stays(desk, TooMany, desk.go, 0, 0)

    def test_no_move(self):
        """Only a state to which the work moves from where it is now."""
        desk = Desk(FREE, HALF, (0, 1))
        for value in OTHER_VALUES + [2, 3]:
            self.stays(desk, NoMove, desk.go, 0, value)
            self.keeps(NoMove, "state", value, desk.go, 0, value)
        # From 1 the second work does not move to 0.
        self.stays(desk, NoMove, desk.go, 1, 0)
        self.keeps(NoMove, "state", 0, desk.go, 1, 0)
        far = deep(20000)
        with self.assertRaises(NoMove):
            desk.go(0, far)
        self.keeps(NoMove, "state", far, desk.go, 0, far)
        self.assertEqual(desk.go(0, 1), (4, 1))

    def test_no_choice(self):
        for company in (FREE, (ONE,), (ONE, chain(2), ring(2))):
            desk = Desk(company, HALF, (0,) * len(company))
            for value in OTHER_VALUES + [len(company), len(company) + 1, -len(company)]:
                if value != 0 or type(value) is not int:
                    self.stays(desk, NoChoice, desk.go, value, 0)
                    self.stays(desk, NoChoice, desk.go, value, None)
                    self.stays(desk, NoChoice, desk.cost_of, value)
                    self.stays(desk, NoChoice, desk.set_pay, value, 0, (1, 1))
                    self.stays(desk, NoChoice, desk.set_pay, value, 9, (1, 0))


class SetPay(DeskCase):
    def test_the_pay_of_one_state_of_one_work(self):
        company = (FREE[0], FREE[0], ONE)
        desk = Desk(company, HALF, (0, 0, 0))
        self.assertIsNone(desk.set_pay(1, 1, (-7, 3)))
        self.assertEqual(desk.company(), (company[0], (company[1][0], ((-7, 3), company[1][1][1])), ONE))
        self.assertEqual(company[0], FREE[0])
        self.assertIsNone(desk.set_pay(2, 0, (10 ** 300, 7)))
        self.assertEqual(desk.company()[2], (((10 ** 300, 7), ((0, (1, 1)),)),))
        self.assertEqual(desk.company()[0], FREE[0])
        self.assertEqual(desk.next_work(), 2)
        self.assertIsNone(desk.set_pay(2, 0, (0, 1)))
        self.assertEqual(desk.next_work(), 0)

    def test_what_was_earned_stays(self):
        desk = Desk(FREE, HALF, (0, 0))
        desk.go(0, 0)
        desk.set_pay(0, 0, (100, 1))
        self.assertEqual(desk.earned(), (4, 1))
        self.assertEqual(desk.go(0, 0), (100, 1))
        self.assertEqual(desk.earned(), (54, 1))
        desk.set_pay(0, 0, (4, 1))
        self.assertEqual([desk.earned(), desk.go(0, 1), desk.earned()], [(54, 1), (4, 1), (55, 1)])

    def test_which_error_comes_first(self):
        for company in (EXAMPLE, (ONE,), (chain(3), ONE)):
            desk = Desk(company, HALF, (0,) * len(company))
            for work, states in enumerate(company):
                self.refuses_in_order(
                    desk.set_pay, (work, 0, (1, 1)),
                    [(NoChoice, [len(company), -1, True, False, None, "0", (0,), [0]]),
                     (NoState, not_states(states)), (NoFraction, NOT_FRACTIONS)],
                )

    def test_a_refused_change_changes_nothing(self):
        desk = Desk(EXAMPLE, HALF, (0, 0))
        for pay in NOT_FRACTIONS:
            self.stays(desk, NoFraction, desk.set_pay, 0, 1, pay)
        for state in not_states(EXAMPLE[0]):
            self.stays(desk, NoState, desk.set_pay, 0, state, (1, 1))


class Marks(DeskCase):
    def test_six_marks_and_one_more(self):
        desk = Desk(FREE, HALF, (0, 0))
        for number in range(6):
            self.assertEqual(desk.marks(), list(range(number)))
            self.assertEqual(desk.mark(), number)
        self.assertEqual(desk.marks(), [0, 1, 2, 3, 4, 5])
        self.stays(desk, TooMany, desk.mark)
        try:
            desk.mark()
        except TooMany as error:
            self.assertEqual(error.limit, 6)
        # Back to the last one removes none, back to another one makes room.
        self.assertIsNone(desk.back(5))
        self.stays(desk, TooMany, desk.mark)
        self.assertIsNone(desk.back(3))
        self.assertEqual(desk.marks(), [0, 1, 2, 3])
        self.assertEqual([desk.mark(), desk.mark()], [4, 5])
        self.stays(desk, TooMany, desk.mark)

    def test_back_restores_all_but_the_marks(self):
        desk = Desk(FREE, HALF, (0, 0))
        desk.go(0, 1)
        before = self.told(desk, 2)[:7]
        self.assertEqual(desk.mark(), 0)
        desk.go(0, 0)
        desk.set_pay(1, 0, (50, 1))
        desk.set_pay(0, 0, (-9, 1))
        between = self.told(desk, 2)[:7]
        self.assertEqual(desk.mark(), 1)
        desk.go(1, 1)
        desk.go(1, 1)
        self.assertEqual(desk.mark(), 2)
        desk.back(1)
        self.assertEqual(self.told(desk, 2), between + [[0, 1]])
        desk.set_pay(1, 1, (8, 1))
        desk.go(1, 0)
        desk.back(1)
        self.assertEqual(self.told(desk, 2), between + [[0, 1]])
        desk.back(0)
        self.assertEqual(self.told(desk, 2), before + [[0]])
        desk.back(0)
        self.assertEqual(self.told(desk, 2), before + [[0]])
        # A mark of the same number is a new one.
        desk.go(0, 0)
        self.assertEqual(desk.mark(), 1)
        again = self.told(desk, 2)
        desk.go(0, 0)
        desk.back(1)
        self.assertEqual(self.told(desk, 2), again)

    def test_no_mark(self):
        desk = Desk(FREE, HALF, (0, 0))
        for value in OTHER_VALUES + [0, 1]:
            self.stays(desk, NoMark, desk.back, value)
            self.keeps(NoMark, "number", value, desk.back, value)
        for _ in range(3):
            desk.mark()
        desk.back(1)
        # 2 was removed; True and "1" are no numbers of marks.
        for value in OTHER_VALUES + [2, 3, 6]:
            self.stays(desk, NoMark, desk.back, value)
            self.keeps(NoMark, "number", value, desk.back, value)
        far = deep(20000)
        self.keeps(NoMark, "number", far, desk.back, far)
        self.assertEqual(desk.marks(), [0, 1])
        self.assertIsNone(desk.back(1))

    def test_back_behind_sixty_steps(self):
        desk = Desk((ONE,), HALF, (0,))
        for _ in range(30):
            desk.go(0, 0)
        desk.mark()
        for _ in range(30):
            desk.go(0, 0)
        self.stays(desk, TooMany, desk.go, 0, 0)
        desk.back(0)
        self.assertEqual(len(desk.log()), 30)
        for _ in range(30):
            desk.go(0, 0)
        self.stays(desk, TooMany, desk.go, 0, 0)


class Telling(DeskCase):
    def test_each_list_is_a_new_one(self):
        desk = Desk(FREE, HALF, (0, 0))
        desk.go(0, 1)
        desk.mark()
        before = self.told(desk, 2)
        self.assertIsNot(desk.log(), desk.log())
        self.assertIsNot(desk.marks(), desk.marks())
        desk.log().append((1, 1))
        desk.log().clear()
        desk.marks().append(7)
        desk.marks().clear()
        log, marks = desk.log(), desk.marks()
        log[0] = (9, 9)
        marks[0] = 9
        self.assertEqual(self.told(desk, 2), before)
        # And what was told before does not change with the desk.
        log, marks = desk.log(), desk.marks()
        desk.go(0, 0)
        desk.mark()
        desk.back(0)
        self.assertEqual([log, marks], [[(0, 1)], [0]])

    def test_with_equal_numbers_the_least_work(self):
        still = with_pays(ring(2), [2, 2])
        self.assertEqual(Desk((ONE, still, ONE), HALF, (0, 1, 0)).next_work(), 0)
        self.assertEqual(Desk((with_pays(ONE, [1]), still, ONE), HALF, (0, 1, 0)).next_work(), 1)
        self.assertEqual([Desk((ONE, ONE), HALF, (0, 0)).cost_of(work) for work in (0, 1)], [(0, 1)] * 2)

    def test_what_a_work_costs(self):
        # 3 for ever, 2 for ever: once 2 instead of 3.
        desk = Desk((with_pays(ONE, [3]), ONE), (4, 5), (0, 0))
        self.assertEqual([desk.worth_now(), desk.cost_of(0), desk.cost_of(1)], [(15, 1), (0, 1), (1, 1)])

    def test_a_company_of_one_work(self):
        desk = Desk((chain(3),), HALF, (0,))
        self.assertEqual([desk.next_work(), desk.cost_of(0), desk.worth_now()], [0, (0, 1), (3, 2)])
        self.assertEqual([desk.go(0, 1), desk.go(0, 2), desk.go(0, 2)], [(0, 1), (1, 1), (2, 1)])
        self.assertEqual(desk.earned(), (1, 1))


class Drawn(DeskCase):
    def run_both(self, draw, desk, model, steps):
        """Drawn calls at the desk and at the model: the same answers, and the same is told by both."""
        works = len(model.company)
        for _ in range(steps):
            kind = draw.choice(["go", "go", "go", "go", "set_pay", "mark", "back"])
            work = draw.randrange(works)
            if kind == "go" and len(model.log) < 60:
                moves = model.company[work][model.standing[work]][1]
                state = draw.choice(moves)[0]
                self.assertEqual(self.call(desk.go, work, state), model.go(work, state))
            elif kind == "set_pay":
                state = draw.randrange(len(model.company[work]))
                pay = pair(Fraction(draw.randint(-9, 20), draw.choice([1, 2, 7])))
                self.assertIsNone(self.call(desk.set_pay, work, state, pay))
                model.set_pay(work, state, pay)
            elif kind == "mark" and len(model.marks) < 6:
                self.assertEqual(desk.mark(), model.mark())
            elif kind == "back" and model.marks:
                number = draw.randrange(len(model.marks))
                self.assertIsNone(self.call(desk.back, number))
                model.back(number)
            self.assertEqual(self.told(desk, works), model.seen())

    def test_drawn_calls(self):
        draw = random.Random(121)
        for company in drawn_companies(122) + equal_companies()[::3]:
            share = draw.choice(SHARES)
            standing = draw.choice(all_standings(company))
            self.run_both(draw, Desk(company, share, standing), Model(company, share, standing), 25)

    def test_great_and_tiny(self):
        draw = random.Random(123)
        for company in great_companies():
            for share in SHARES[-2:]:
                standing = (0,) * len(company)
                self.run_both(draw, Desk(company, share, standing), Model(company, share, standing), 8)

    def test_two_desks_do_not_touch_one_another(self):
        draw = random.Random(124)
        for company in drawn_companies(125)[::3]:
            desks = [Desk(company, HALF, (0,) * len(company)) for _ in range(2)]
            models = [Model(company, HALF, (0,) * len(company)) for _ in range(2)]
            for _ in range(6):
                for desk, model in zip(desks, models):
                    self.run_both(draw, desk, model, 3)
                for desk, model in zip(desks, models):
                    self.assertEqual(self.told(desk, len(company)), model.seen())


class Quick(DeskCase):
    def test_sixty_steps(self):
        draw = random.Random(126)
        full = (work_of([range(3)] * 3), work_of([range(2)] * 2), work_of([range(2)] * 2))
        for company in [full] + great_companies()[-6:]:
            for share in SHARES:
                desk = Desk(company, share, (0,) * len(company))
                for _ in range(60):
                    work = draw.randrange(len(company))
                    moves = desk.company()[work][desk.standing()[work]][1]
                    self.is_quick(desk.go, work, draw.choice(moves)[0])
                self.is_quick(desk.mark)
                self.is_quick(desk.set_pay, 0, 0, (10 ** 300 + 1, 10 ** 299))
                for method in (desk.earned, desk.log, desk.next_work, desk.worth_now, desk.marks):
                    self.is_quick(method)
                self.is_quick(desk.cost_of, len(company) - 1)
                self.is_quick(desk.back, 0)


if __name__ == "__main__":
    unittest.main()
