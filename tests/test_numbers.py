"""Point 7, point 3 of the numbers of works, and nextwork/numbers.py."""

import random
import unittest
from fractions import Fraction

from nextwork.numbers import numbers, ranking, states_above, states_not_less
from nextwork.stopping import rate
from nextwork.works import reached
from nextwork.wrongs import NoShare, NoState, NoWork
from samples import (
    NOT_SHARES, NOT_WORKS, SHARES, PlainCase, chain, drawn_work, drawn_works, exact, great_works, not_states,
    pair, ring, sets_of, small_works, with_pay, with_pays, work_of,
)

EXAMPLE = (
    ((0, 1), ((1, (1, 2)), (2, (1, 2)))), ((6, 1), ((1, (1, 1)),)), ((1, 1), ((2, (1, 1)),)),
)
ONE = (((7, 3), ((0, (1, 1)),)),)
# Two and two states are the same but for their names.
TWINS = (
    ((3, 1), ((2, (1, 1)),)), ((3, 1), ((3, (1, 1)),)), ((5, 1), ((0, (1, 2)), (1, (1, 2)))),
    ((5, 1), ((0, (1, 2)), (1, (1, 2)))), ((0, 1), ((0, (1, 1)),)),
)


def greatest_rates(work, share):
    """For each state the greatest rate over all sets."""
    return tuple(
        pair(max(exact(rate(work, share, state, states)) for states in sets_of(len(work))))
        for state in range(len(work))
    )


def between(least, most):
    """All sets that hold the one and are held by the other."""
    free = [state for state in most if state not in least]
    return [tuple(sorted(least + tuple(free[k] for k in row))) for row in sets_of(len(free))]


class Example(unittest.TestCase):
    def test_of_the_document(self):
        share = (1, 2)
        self.assertEqual(
            [
                numbers(EXAMPLE, share), states_above(EXAMPLE, share, 0), states_not_less(EXAMPLE, share, 0),
                ranking(EXAMPLE, share),
            ],
            [((2, 1), (6, 1), (1, 1)), (1,), (0, 1), [[1], [0], [2]]],
        )


class NumbersCase(PlainCase):
    def told(self, work, share):
        answer = self.call(numbers, work, share)
        self.assertIs(type(answer), tuple)
        self.assertEqual(len(answer), len(work))
        for number in answer:
            self.is_a_fraction(number)
        return answer

    def check_sets(self, work, share):
        """The sets of the document reach the number, and no set goes beyond it."""
        for state, number in enumerate(self.told(work, share)):
            above = self.call(states_above, work, share, state)
            not_less = self.call(states_not_less, work, share, state)
            for states in between(above, not_less):
                self.assertEqual(rate(work, share, state, states), number)
            for states in sets_of(len(work)):
                self.assertLessEqual(exact(rate(work, share, state, states)), exact(number))


class OverAllSets(NumbersCase):
    def test_works_of_one_state(self):
        for pay in ((0, 1), (-5, 3), (10 ** 300, 7)):
            for share in SHARES:
                self.assertEqual(self.told(((pay, ((0, (1, 1)),)),), share), (pay,))

    def test_works_of_two_states(self):
        for pays in ([1, 4], [4, 1], [0, 0], [-3, -2]):
            for work in small_works(2, pays):
                for share in SHARES:
                    self.assertEqual(self.told(work, share), greatest_rates(work, share))

    def test_works_of_three_states(self):
        for pays, share in (([1, 4, -2], (1, 2)), ([3, 3, 4], (9, 10)), ([0, 5, 6], (99, 100))):
            for work in small_works(3, pays):
                self.assertEqual(self.told(work, share), greatest_rates(work, share))

    def test_drawn_works(self):
        for work in drawn_works(7, (2, 3, 4), 4):
            for share in ((1, 2), (7, 9)):
                self.assertEqual(self.told(work, share), greatest_rates(work, share))

    def test_the_sets_that_reach_it(self):
        for work in drawn_works(71, (1, 2, 3, 4, 5), 2) + drawn_works(72, (6,), 1) + [TWINS, chain(6), ring(6)]:
            self.check_sets(work, (4, 5))

    def test_shares_near_0_and_1(self):
        for work in drawn_works(73, (3, 5), 1) + [TWINS]:
            for share in SHARES[2:]:
                self.check_sets(work, share)

    def test_great_and_tiny_pays(self):
        for work in great_works():
            if len(work) < 6:
                for share in ((1, 2), (1, 10 ** 30), (10 ** 30 - 1, 10 ** 30)):
                    self.check_sets(work, share)
        for work in great_works():
            for state, number in enumerate(self.told(work, (10 ** 30 - 1, 10 ** 30))):
                share = (10 ** 30 - 1, 10 ** 30)
                for states in (states_above(work, share, state), states_not_less(work, share, state)):
                    self.assertEqual(rate(work, share, state, states), number)

    def test_pays_that_differ_by_very_little(self):
        little = Fraction(1, 10 ** 200)
        work = with_pays(work_of([[0, 1], [0, 1]]), [1, 1 + little])
        told = self.told(work, (1, 2))
        self.assertEqual(told[1], pair(1 + little))
        self.assertLess(exact(told[0]), 1 + little)
        self.assertGreater(exact(told[0]), 1)
        self.assertEqual(ranking(work, (1, 2)), [[1], [0]])


class OneMoveEach(NumbersCase):
    def best_stop(self, work, share, state):
        """The greatest rate over all numbers of steps, and of going on without end."""
        share = exact(share)
        pay, steps, factor = Fraction(0), Fraction(0), Fraction(1)
        rates = []
        path = []
        while state not in path:
            path.append(state)
            pay += factor * exact(work[state][0])
            steps += factor
            factor *= share
            rates.append(pay / steps)
            state = work[state][1][0][0]
        turn = path[path.index(state):]
        once = sum(share ** k * exact(work[one][0]) for k, one in enumerate(turn))
        rates.append((pay + factor * once / (1 - share ** len(turn))) * (1 - share))
        return max(rates)

    def test_works_of_up_to_six_states(self):
        draw = random.Random(74)
        works = [drawn_work(draw, many, 1) for many in (1, 2, 3, 4, 5, 6) for _ in range(12)]
        for work in works + [chain(6), ring(6)]:
            for share in ((1, 2), (9, 10), (1, 10 ** 30), (10 ** 30 - 1, 10 ** 30)):
                wanted = tuple(pair(self.best_stop(work, share, state)) for state in range(len(work)))
                self.assertEqual(self.told(work, share), wanted)

    def test_written_out(self):
        # 3 and then nothing, 2 for ever, and 0 before a 6: (0 + 6/2) / (3/2).
        self.assertEqual(numbers((((3, 1), ((1, (1, 1)),)), ((0, 1), ((1, (1, 1)),))), (1, 2)), ((3, 1), (0, 1)))
        self.assertEqual(numbers((((2, 1), ((0, (1, 1)),)),), (1, 2)), ((2, 1),))
        work = (((0, 1), ((1, (1, 1)),)), ((6, 1), ((0, (1, 1)),)))
        self.assertEqual(numbers(work, (1, 2)), ((2, 1), (6, 1)))
        # Without end: 1, then 2 for ever, with the share 1/2: (1 + 2) / 2.
        work = (((1, 1), ((1, (1, 1)),)), ((2, 1), ((1, (1, 1)),)))
        self.assertEqual(numbers(work, (1, 2)), ((3, 2), (2, 1)))


class AllWays(NumbersCase):
    def test_no_way_of_stopping_brings_more(self):
        """Stopping by the state and by how many steps were gone: never more than the number a step."""
        for work in drawn_works(75, (2, 4, 6), 2) + [TWINS]:
            share = (3, 4)
            for state, number in enumerate(self.told(work, share)):
                less = [exact(pay) - exact(number) for pay, _ in work]
                most = [Fraction(0)] * len(work)
                for _ in range(9):
                    gone = [
                        one + exact(share) * sum(exact(chance) * most[at] for at, chance in moves)
                        for one, (_, moves) in zip(less, work)
                    ]
                    self.assertLessEqual(gone[state], 0)
                    most = [max(0, one) for one in gone]


class Laws(NumbersCase):
    def each(self, seed):
        return drawn_works(seed, (1, 2, 3, 4, 5, 6), 3) + [TWINS, chain(6), ring(5)]

    def test_the_greatest_number_is_the_greatest_pay(self):
        for work in self.each(76):
            for share in SHARES:
                told = [exact(number) for number in self.told(work, share)]
                pays = [exact(pay) for pay, _ in work]
                self.assertEqual(max(told), max(pays))
                for number, pay in zip(told, pays):
                    self.assertGreaterEqual(number, pay)

    def test_equal_pays(self):
        for work in self.each(77):
            equal = with_pays(work, [Fraction(-4, 3)] * len(work))
            self.assertEqual(self.told(equal, (2, 3)), ((-4, 3),) * len(work))
            self.assertEqual(self.call(ranking, equal, (2, 3)), [list(range(len(work)))])

    def test_pays_times_a_factor_and_more(self):
        for work in self.each(78):
            wanted = tuple(pair(exact(number) * Fraction(5, 3) - 7) for number in self.told(work, (2, 3)))
            other = with_pays(work, [exact(pay) * Fraction(5, 3) - 7 for pay, _ in work])
            self.assertEqual(self.told(other, (2, 3)), wanted)

    def test_states_that_are_not_reached_do_not_matter(self):
        for work in self.each(79):
            told = self.told(work, (2, 3))
            for state in range(len(work)):
                behind = reached(work, state)
                for other in (10 ** 60, -10 ** 60):
                    pays = [exact(pay) if at in behind else other for at, (pay, _) in enumerate(work)]
                    self.assertEqual(self.told(with_pays(work, pays), (2, 3))[state], told[state])

    def test_a_greater_pay_makes_no_number_less(self):
        for work in self.each(80):
            told = self.told(work, (2, 3))
            for state, (pay, _) in enumerate(work):
                more = self.told(with_pay(work, state, exact(pay) + Fraction(1, 9)), (2, 3))
                self.assertGreater(exact(more[state]), exact(told[state]))
                for one, other in zip(told, more):
                    self.assertLessEqual(exact(one), exact(other))

    def test_names_of_states_do_not_matter(self):
        for work in self.each(81):
            last = len(work) - 1
            turned = tuple(
                (pay, tuple(sorted((last - at, chance) for at, chance in moves))) for pay, moves in reversed(work)
            )
            self.assertEqual(self.told(turned, (4, 5)), tuple(reversed(self.told(work, (4, 5)))))

    def test_the_same_again(self):
        for work in self.each(82):
            first = numbers(work, (1, 2))
            numbers(work, (9, 10))
            numbers(ONE, (1, 2))
            self.assertEqual(numbers(work, (1, 2)), first)


class Order(NumbersCase):
    def check(self, work, share):
        told = [exact(number) for number in self.told(work, share)]
        for state, own in enumerate(told):
            above = self.call(states_above, work, share, state)
            self.assertIs(type(above), tuple)
            self.assertEqual(above, tuple(at for at, number in enumerate(told) if number > own))
            not_less = self.call(states_not_less, work, share, state)
            self.assertIs(type(not_less), tuple)
            self.assertEqual(not_less, tuple(at for at, number in enumerate(told) if number >= own))
            self.assertNotIn(state, above)
            self.assertIn(state, not_less)
        wanted = [
            [at for at, number in enumerate(told) if number == one] for one in sorted(set(told), reverse=True)
        ]
        self.assertEqual(self.call(ranking, work, share), wanted)

    def test_by_the_numbers(self):
        for work in drawn_works(83, (1, 2, 3, 4, 5, 6), 4) + great_works() + [TWINS, ONE, chain(6), ring(6)]:
            for share in ((1, 2), (99, 100), (1, 10 ** 30)):
                self.check(work, share)

    def test_equal_numbers(self):
        # 2 and 3 bring 5; 0 and 1 lead to them; what leads to those brings least.
        self.assertEqual(ranking(TWINS, (1, 2)), [[2, 3], [0, 1], [4]])
        self.assertEqual(states_above(TWINS, (1, 2), 1), (2, 3))
        self.assertEqual(states_not_less(TWINS, (1, 2), 1), (0, 1, 2, 3))
        self.assertEqual(states_above(TWINS, (1, 2), 3), ())
        self.assertEqual(states_not_less(TWINS, (1, 2), 3), (2, 3))
        # Equal numbers of states with different pays: 4, and 3 before 6 with (3 + 3) / (3/2).
        work = (((3, 1), ((1, (1, 1)),)), ((6, 1), ((2, (1, 1)),)), ((4, 1), ((2, (1, 1)),)))
        self.assertEqual(numbers(work, (1, 2)), ((4, 1), (6, 1), (4, 1)))
        self.assertEqual(ranking(work, (1, 2)), [[1], [0, 2]])
        self.check_sets(work, (1, 2))

    def test_each_list_is_a_new_one(self):
        for work in (TWINS, EXAMPLE, ONE):
            first = ranking(work, (1, 2))
            wanted = [list(row) for row in first]
            self.assertIs(type(first), list)
            for row in first:
                self.assertIs(type(row), list)
                row.append("more")
            first.append("more")
            second = ranking(work, (1, 2))
            self.assertEqual(second, wanted)
            self.assertEqual(len({id(row) for row in second}), len(second))


class Wrong(PlainCase):
    def test_wrong_values_alone_and_beside_wrong_later_ones(self):
        for work in (EXAMPLE, ONE, chain(6), TWINS):
            wrong = [(NoWork, NOT_WORKS), (NoShare, NOT_SHARES), (NoState, not_states(work))]
            for function in (numbers, ranking):
                self.refuses_in_order(function, (work, (1, 2)), wrong[:2])
            for function in (states_above, states_not_less):
                self.refuses_in_order(function, (work, (1, 2), 0), wrong)

    def test_where_the_answer_would_not_hang_on_it(self):
        # With one state, or with equal pays, the share does not matter.
        for function in (numbers, ranking):
            self.refuses(NoShare, function, ONE, (1, 1))
            self.refuses(NoShare, function, with_pays(ring(2), [1, 1]), (0, 1))
        for function in (states_above, states_not_less):
            self.refuses(NoShare, function, ONE, (1, 1), 0)
            self.refuses(NoState, function, ONE, (1, 2), 1)
            self.refuses(NoState, function, ring(2), (1, 2), True)
            self.refuses(NoState, function, ring(2), (1, 2), False)

    def test_a_refusal_leaves_nothing_behind(self):
        self.refuses(NoShare, numbers, EXAMPLE, (2, 1))
        self.refuses(NoState, states_above, EXAMPLE, (1, 2), 3)
        self.assertEqual(numbers(EXAMPLE, (1, 2)), ((2, 1), (6, 1), (1, 1)))


class Quick(PlainCase):
    def test_six_states(self):
        for work in great_works() + [work_of([range(6)] * 6), TWINS]:
            for share in SHARES:
                self.is_quick(numbers, work, share)
                self.is_quick(ranking, work, share)
                self.is_quick(states_above, work, share, len(work) - 1)
                self.is_quick(states_not_less, work, share, len(work) - 1)


if __name__ == "__main__":
    unittest.main()
