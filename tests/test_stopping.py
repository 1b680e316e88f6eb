"""Point 6 and nextwork/stopping.py."""

import random
import unittest
from fractions import Fraction

from nextwork.stopping import rate, spent
from nextwork.works import reached
from nextwork.wrongs import NoShare, NoState, NoStates, NoWork
from samples import (
    GREAT, NOT_SHARES, NOT_WORKS, SHARES, PlainCase, chain, drawn_work, drawn_works, exact, great_works, mean,
    not_sets, not_states, pair, ring, sets_of, small_works, with_pays, work_of,
)

EXAMPLE = (
    ((0, 1), ((1, (1, 2)), (2, (1, 2)))), ((6, 1), ((1, (1, 1)),)), ((1, 1), ((2, (1, 1)),)),
)
ONE = (((7, 3), ((0, (1, 1)),)),)


def some_sets(many, draw):
    """All sets of few states; of more the empty one, all states, each state alone, and some."""
    if many <= 3:
        return sets_of(many)
    drawn = draw.sample(sets_of(many), 8)
    return [(), tuple(range(many))] + [(state,) for state in range(many)] + drawn


def walked(work, share, state, states):
    """Pay and steps of a work without chances, gone step by step until the set is left."""
    share = exact(share)
    path = []
    while True:
        path.append(state)
        state = work[state][1][0][0]
        if state not in states:
            return added(work, share, path)
        if state in path:
            # From here on the same steps come again and again.
            start = path.index(state)
            front = added(work, share, path[:start])
            turn = added(work, share, path[start:])
            again = share ** start / (1 - share ** (len(path) - start))
            return (front[0] + again * turn[0], front[1] + again * turn[1])


def first_part(work, state, states, many):
    """Pay and steps of so many steps with the share 1/2, by the chances to be at each state."""
    there = {state: Fraction(1)}
    pays = steps = 0
    for k in range(many):
        pays += sum(part * exact(work[at][0]) for at, part in there.items()) / 2 ** k
        steps += sum(there.values()) / 2 ** k
        behind = {}
        for at, part in there.items():
            for target, chance in work[at][1]:
                if target in states:
                    behind[target] = behind.get(target, Fraction(0)) + part * exact(chance)
        there = behind
    return (pays, steps)


def added(work, share, path):
    pay = sum(share ** k * exact(work[state][0]) for k, state in enumerate(path))
    return (pay, sum(share ** k for k in range(len(path))))


class Example(unittest.TestCase):
    def test_of_the_document(self):
        share = (1, 2)
        self.assertEqual(
            [
                spent(EXAMPLE, share, 0, ()), spent(EXAMPLE, share, 0, (1,)),
                rate(EXAMPLE, share, 0, (1,)), rate(EXAMPLE, share, 0, (1, 2)),
            ],
            [((0, 1), (1, 1)), ((3, 1), (3, 2)), (2, 1), (7, 4)],
        )


class SpentCase(PlainCase):
    def told(self, work, share, state, states):
        """What spent tells, and rate tells the same."""
        answer = self.call(spent, work, share, state, states)
        self.assertIs(type(answer), tuple)
        self.assertEqual(len(answer), 2)
        self.is_a_fraction(answer[0])
        self.is_a_fraction(answer[1])
        pay, steps = exact(answer[0]), exact(answer[1])
        ratio = self.call(rate, work, share, state, states)
        self.is_a_fraction(ratio)
        self.assertEqual(exact(ratio), pay / steps)
        return (pay, steps)


class ByTheWords(SpentCase):
    def check(self, work, share, states):
        """One step, and then the share times what is behind it where that is in the set."""
        told = [self.told(work, share, state, states) for state in range(len(work))]
        for state, (pay, moves) in enumerate(work):
            inside = [(target, chance) for target, chance in moves if target in states]
            pays = exact(pay) + exact(share) * mean(inside, [one for one, _ in told])
            steps = 1 + exact(share) * mean(inside, [one for _, one in told])
            self.assertEqual(told[state], (pays, steps), (work, share, state, states))

    def test_small_works_and_all_sets(self):
        for many, pays in ((1, [5]), (2, [3, -1]), (2, [0, 0])):
            for work in small_works(many, pays):
                for states in sets_of(many):
                    for share in SHARES:
                        self.check(work, share, states)
        for work in small_works(3, [2, -1, 5]):
            for states in sets_of(3):
                self.check(work, (1, 3), states)

    def test_drawn_works(self):
        draw = random.Random(61)
        for work in drawn_works(6, (1, 2, 3, 4, 5, 6), 2):
            for states in some_sets(len(work), draw):
                for share in ((1, 2), (7, 9)):
                    self.check(work, share, states)

    def test_shares_near_0_and_1(self):
        draw = random.Random(62)
        for work in drawn_works(60, (2, 4, 6), 1):
            for states in some_sets(len(work), draw):
                for share in SHARES[2:]:
                    self.check(work, share, states)

    def test_great_and_tiny_pays(self):
        draw = random.Random(63)
        for work in great_works():
            for states in some_sets(len(work), draw)[:6]:
                for share in ((1, 2), (1, 10 ** 30), (10 ** 30 - 1, 10 ** 30)):
                    self.check(work, share, states)

    def test_the_first_steps_come_near_it(self):
        """The sum over a number of steps differs from it by no more than the rest can bring."""
        draw = random.Random(64)
        for work in drawn_works(65, (1, 3, 6), 1):
            for states in some_sets(len(work), draw)[:8]:
                for state in range(len(work)):
                    pay, steps = self.told(work, (1, 2), state, states)
                    first_pay, first_steps = first_part(work, state, states, 40)
                    rest = Fraction(1, 2 ** 39)
                    self.assertLessEqual(abs(pay - first_pay), 12 * rest)
                    self.assertLessEqual(abs(steps - first_steps), rest)


class ByHand(SpentCase):
    def test_every_work_without_chances(self):
        for many, pays in ((1, [4]), (2, [1, 3]), (3, [3, -1, 7])):
            for work in small_works(many, pays):
                if all(len(moves) == 1 for _, moves in work):
                    for states in sets_of(many):
                        for state in range(many):
                            for share in ((1, 2), (3, 5)):
                                self.assertEqual(
                                    self.told(work, share, state, states), walked(work, share, state, states))

    def test_longer_works_without_chances(self):
        draw = random.Random(66)
        works = [drawn_work(draw, many, 1) for many in (4, 5, 6) for _ in range(4)]
        for work in works + [chain(6), ring(6), ring(4)]:
            for states in sets_of(len(work)):
                for state in range(len(work)):
                    self.assertEqual(
                        self.told(work, (2, 3), state, states), walked(work, (2, 3), state, states))

    def test_written_out(self):
        # Pays 0, 1, 2, 3, each leading to the next, the last to itself.
        work = chain(4)
        for state, states, wanted in (
            (0, (), ((0, 1), (1, 1))),
            (0, (0,), ((0, 1), (1, 1))),
            (0, (1,), ((1, 2), (3, 2))),
            (0, (1, 2), ((1, 1), (7, 4))),
            (0, (1, 2, 3), ((7, 4), (2, 1))),
            (0, (2, 3), ((0, 1), (1, 1))),
            (3, (), ((3, 1), (1, 1))),
            (3, (0, 1, 2), ((3, 1), (1, 1))),
            (3, (3,), ((6, 1), (2, 1))),
        ):
            self.assertEqual(self.call(spent, work, (1, 2), state, states), wanted)
            self.assertEqual(self.call(rate, work, (1, 2), state, states), pair(exact(wanted[0]) / exact(wanted[1])))

    def test_a_ring_that_comes_back_to_its_first_state(self):
        work = (((4, 1), ((1, (1, 1)),)), ((1, 1), ((0, (1, 1)),)))
        self.assertEqual(spent(work, (1, 2), 0, (1,)), ((9, 2), (3, 2)))
        self.assertEqual(spent(work, (1, 2), 0, (0, 1)), ((6, 1), (2, 1)))
        self.assertEqual(spent(work, (1, 2), 0, (0,)), ((4, 1), (1, 1)))

    def test_a_state_that_stays_with_a_chance(self):
        work = (((3, 1), ((0, (1, 3)), (1, (2, 3)))), ((5, 1), ((1, (1, 1)),)))
        # Staying with 1/3, the share 1/2: 1 / (1 - 1/6) steps.
        self.assertEqual(spent(work, (1, 2), 0, (0,)), ((18, 5), (6, 5)))
        self.assertEqual(spent(work, (1, 2), 0, ()), ((3, 1), (1, 1)))
        self.assertEqual(rate(work, (1, 2), 0, (0,)), (3, 1))


class Laws(SpentCase):
    def each(self, seed=67, share=(3, 4)):
        draw = random.Random(seed)
        for work in drawn_works(seed, (1, 2, 3, 4, 6), 2):
            for states in some_sets(len(work), draw):
                for state in range(len(work)):
                    yield work, share, state, states

    def test_the_empty_set_is_one_step(self):
        for work in drawn_works(68, range(1, 7), 2) + great_works():
            for share in SHARES:
                for state, (pay, _) in enumerate(work):
                    self.assertEqual(self.told(work, share, state, ()), (exact(pay), 1))

    def test_all_states_are_going_on_without_end(self):
        for work in drawn_works(69, range(1, 7), 2):
            for share in SHARES:
                for state in range(len(work)):
                    _, steps = self.told(work, share, state, tuple(range(len(work))))
                    self.assertEqual(steps, 1 / (1 - exact(share)))

    def test_equal_pays_are_the_rate(self):
        for work, share, state, states in self.each():
            equal = with_pays(work, [exact((-7, 3))] * len(work))
            self.assertEqual(self.call(rate, equal, share, state, states), (-7, 3))

    def test_pays_times_a_factor(self):
        for work, share, state, states in self.each(70):
            pay, steps = self.told(work, share, state, states)
            for factor in (0, -3, exact((5, 7))):
                other = with_pays(work, [factor * exact(one) for one, _ in work])
                self.assertEqual(self.told(other, share, state, states), (factor * pay, steps))

    def test_pays_summed(self):
        draw = random.Random(71)
        for work, share, state, states in self.each(72):
            more = [exact((draw.randint(-9, 9), 11)) for _ in work]
            other = with_pays(work, more)
            both = with_pays(work, [one + exact(pay) for one, (pay, _) in zip(more, work)])
            told = [self.told(one, share, state, states) for one in (work, other, both)]
            self.assertEqual(told[0][0] + told[1][0], told[2][0])
            # The steps do not hang on the pays.
            self.assertEqual(told[0][1], told[1][1])
            self.assertEqual(told[0][1], told[2][1])

    def test_the_rate_lies_between_the_pays(self):
        for work, share, state, states in self.each(73, (9, 10)):
            gone, waiting = {state}, [state]
            while waiting:
                for target, _ in work[waiting.pop()][1]:
                    if target in states and target not in gone:
                        gone.add(target)
                        waiting.append(target)
            pays = [exact(work[at][0]) for at in gone]
            told = exact(self.call(rate, work, share, state, states))
            self.assertLessEqual(min(pays), told)
            self.assertLessEqual(told, max(pays))

    def test_states_that_are_not_reached_do_not_matter(self):
        for work, share, state, states in self.each(74):
            behind = reached(work, state)
            inside = tuple(one for one in states if one in behind)
            told = self.call(spent, work, share, state, states)
            self.assertEqual(self.call(spent, work, share, state, inside), told)
            others = [exact(pay) if at in behind else 10 ** 50 + at for at, (pay, _) in enumerate(work)]
            self.assertEqual(self.call(spent, with_pays(work, others), share, state, states), told)

    def test_the_first_state_need_not_be_in_the_set(self):
        # A state that is not come back to is gone on from all the same, in the set or not.
        for state in range(5):
            for states in sets_of(6):
                inside = tuple(sorted({state, *states}))
                outside = tuple(one for one in states if one != state)
                self.assertEqual(
                    spent(chain(6), (1, 2), state, inside), spent(chain(6), (1, 2), state, outside))
        # One that is come back to makes a difference.
        self.assertNotEqual(spent(ring(2), (1, 2), 0, (0, 1)), spent(ring(2), (1, 2), 0, (1,)))

    def test_the_same_again(self):
        for work, share, state, states in self.each(75):
            first = spent(work, share, state, states)
            rate(work, share, state, ())
            self.assertEqual(spent(work, share, state, states), first)


class Wrong(PlainCase):
    def wrong(self, work):
        return [
            (NoWork, NOT_WORKS), (NoShare, NOT_SHARES), (NoState, not_states(work)), (NoStates, not_sets(work)),
        ]

    def test_wrong_values_alone_and_beside_wrong_later_ones(self):
        for work in (EXAMPLE, ONE, chain(6), ring(2)):
            for function in (spent, rate):
                self.refuses_in_order(function, (work, (1, 2), 0, (0,)), self.wrong(work))

    def test_where_the_answer_would_not_hang_on_it(self):
        for function in (spent, rate):
            # Only one step is gone: the share does not matter.
            self.refuses(NoShare, function, chain(3), (1, 1), 0, ())
            self.refuses(NoShare, function, chain(3), (0, 1), 0, (0,))
            # States that the state does not reach.
            self.refuses(NoStates, function, chain(6), (1, 2), 5, (0, 0))
            self.refuses(NoStates, function, chain(6), (1, 2), 5, (1, 0))
            self.refuses(NoStates, function, chain(6), (1, 2), 5, (0, 6))
            self.refuses(NoStates, function, ONE, (1, 2), 0, (1,))
            # A row that is not come to fails the work all the same.
            self.refuses(NoWork, function, ONE + (((1, 1), ((1, (1, 2)),)),), (1, 2), 0, ())

    def test_true_is_not_a_state(self):
        for function in (spent, rate):
            self.refuses(NoState, function, ring(2), (1, 2), True, ())
            self.refuses(NoState, function, ring(2), (1, 2), False, ())
            self.refuses(NoStates, function, ring(2), (1, 2), 0, (True,))
            self.refuses(NoStates, function, ring(2), (1, 2), 0, (0, True))
            self.refuses(NoStates, function, ring(2), (1, 2), 0, (False, 1))

    def test_a_refusal_leaves_nothing_behind(self):
        self.refuses(NoStates, spent, EXAMPLE, (1, 2), 0, [1])
        self.refuses(NoShare, rate, EXAMPLE, (2, 1), 0, (1,))
        self.assertEqual(spent(EXAMPLE, (1, 2), 0, (1,)), ((3, 1), (3, 2)))


class Quick(PlainCase):
    def test_six_states(self):
        for work in great_works() + [work_of([range(6)] * 6)]:
            for share in SHARES + [(GREAT - 1, GREAT)]:
                self.is_quick(spent, work, share, 0, tuple(range(len(work))))
                self.is_quick(rate, work, share, 0, tuple(range(len(work))))


if __name__ == "__main__":
    unittest.main()
