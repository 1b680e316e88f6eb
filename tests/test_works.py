"""Point 5 and nextwork/works.py."""

import random
import unittest
from itertools import combinations, product

from nextwork.works import is_share, is_work, reached
from nextwork.wrongs import NoState, NoWork
from samples import GREAT, NOT_FRACTIONS, NOT_LOWEST, NOT_PAIRS, PlainCase, chain, deep, ring, work_of

HALF = (1, 2)
SURE = (1, 1)
EXAMPLE = (
    ((0, 1), ((1, (1, 2)), (2, (1, 2)))), ((6, 1), ((1, (1, 1)),)), ((1, 1), ((2, (1, 1)),)),
)
# The second state of a good work of three states; tests put other things in its place.
FIRST = ((3, 2), ((0, (1, 3)), (2, (2, 3))))
LAST = ((-1, 1), ((0, (1, 6)), (1, (1, 3)), (2, (1, 2))))


def with_row(row):
    return (FIRST, row, LAST)


def with_moves(moves):
    return with_row(((1, 1), moves))


def rows_of_moves(many):
    """All ascending rows of at least one state of so many."""
    return [row for size in range(1, many + 1) for row in combinations(range(many), size)]


def drawn_rows():
    """Moves of works of four to six states, the same in each run."""
    draw = random.Random(5)
    found = []
    for many in (4, 5, 6):
        for most in (1, 1, 2, 2, 2, 3, many):
            for _ in range(8):
                found.append([
                    sorted(draw.sample(range(many), draw.randint(1, most))) for _ in range(many)
                ])
    return found


def closure(rows):
    """For each state the states that it reaches, by all states in between."""
    states = range(len(rows))
    leads = [[a == b or b in rows[a] for b in states] for a in states]
    for between in states:
        for a in states:
            for b in states:
                if leads[a][between] and leads[between][b]:
                    leads[a][b] = True
    return [[b for b in states if leads[a][b]] for a in states]


# Works that fail to be one because something in them is a list.
WITH_LISTS = [
    [FIRST, (SURE, ((1, SURE),)), LAST],
    with_row([SURE, ((1, SURE),)]),
    with_row(([1, 1], ((1, SURE),))),
    with_moves([(1, SURE)]),
    with_moves(([1, SURE],)),
    with_moves(((1, [1, 1]),)),
    with_moves(((0, HALF), [1, HALF])),
    [],
    [[[0, 1], [[0, [1, 1]]]]],
    [((0, 1), ((0, (1, 1)),))],
]

# Moves of a work of three states that fail, with the reason in front.
WRONG_MOVES = [
    ("none", ()),
    ("no tuple", None), ("no tuple", True), ("no tuple", 1), ("no tuple", "ab"), ("no tuple", ""),
    ("no tuple around", (1, SURE)),
    ("not in tuples", (1,)), ("not in tuples", (None,)), ("not in tuples", ("ab",)),
    ("short", ((),)), ("short", ((1,),)), ("long", ((1, SURE, 1),)), ("long", ((1, 1, 1),)),
    ("turned about", ((SURE, 1),)),
    ("less than 1", ((1, HALF),)), ("less than 1", ((0, (1, 3)), (1, (1, 3)), (2, (1, 4)))),
    ("more than 1", ((1, (3, 2)),)), ("more than 1", ((0, HALF), (1, HALF), (2, (1, 100)))),
    ("more than 1", ((0, SURE), (1, SURE))),
    ("missing 1 by little", ((0, HALF), (1, (GREAT, 2 * GREAT + 1)))),
    ("missing 1 by little", ((0, HALF), (1, (GREAT, 2 * GREAT - 1)))),
    ("missing 1 by little", ((1, (GREAT - 1, GREAT)),)), ("missing 1 by little", ((1, (GREAT + 1, GREAT)),)),
    ("a chance of 0", ((1, (0, 1)),)), ("a chance of 0", ((0, (0, 1)), (1, SURE))),
    ("a chance of 0", ((1, SURE), (2, (0, 1)))),
    ("a chance below 0", ((0, (-1, 2)), (1, (3, 2)))), ("a chance below 0", ((0, (3, 2)), (1, (-1, 2)))),
    ("a chance below 0", ((1, (-1, 1)),)),
    ("a state twice", ((1, HALF), (1, HALF))), ("a state twice", ((0, HALF), (2, (1, 4)), (2, (1, 4)))),
    ("not ascending", ((1, HALF), (0, HALF))), ("not ascending", ((0, HALF), (2, (1, 4)), (1, (1, 4)))),
    ("no such state", ((3, SURE),)), ("no such state", ((0, HALF), (3, HALF))),
    ("no such state", ((-1, SURE),)), ("no such state", ((-1, HALF), (1, HALF))),
    ("no such state", ((GREAT, SURE),)), ("no such state", ((-GREAT, SURE),)),
    ("no integer", ((True, SURE),)), ("no integer", ((False, SURE),)), ("no integer", ((None, SURE),)),
    ("no integer", (("1", SURE),)), ("no integer", (((1,), SURE),)), ("no integer", (((1, 1), SURE),)),
    ("no integer", ((0, HALF), (True, HALF))), ("no integer", ((False, HALF), (1, HALF))),
    ("no lowest terms", ((1, (2, 2)),)), ("no lowest terms", ((0, (2, 4)), (1, HALF))),
    ("no lowest terms", ((0, HALF), (1, (2, 4)))),
    ("True in a chance", ((1, (True, 1)),)), ("True in a chance", ((1, (1, True)),)),
    ("True in a chance", ((0, (True, 2)), (1, HALF))),
    ("a whole chance", ((1, 1),)), ("a whole chance", ((1, True),)),
]


class Example(unittest.TestCase):
    def test_of_the_document(self):
        self.assertEqual(
            [
                is_work(EXAMPLE), reached(EXAMPLE, 0), reached(EXAMPLE, 1),
                is_share((1, 2)), is_share((1, 1)),
            ],
            [True, [0, 1, 2], [1], True, False],
        )


class IsShare(PlainCase):
    def test_shares_are(self):
        for value in (
            (1, 2), (1, 3), (2, 3), (99, 100), (1, 100), (1, GREAT), (GREAT - 1, GREAT),
            (GREAT, GREAT + 1), (1, 10 ** 900), (10 ** 900 - 1, 10 ** 900),
        ):
            self.tells(True, is_share, value)

    def test_fractions_outside_are_not(self):
        for value in (
            (0, 1), (1, 1), (-1, 2), (-1, 1), (2, 1), (3, 2), (-99, 100), (101, 100),
            (GREAT + 1, GREAT), (-1, GREAT), (GREAT, 1), (-GREAT, 1), (-GREAT, GREAT + 1),
        ):
            self.tells(False, is_share, value)

    def test_what_is_no_fraction_is_not(self):
        for value in NOT_FRACTIONS:
            self.tells(False, is_share, value)

    def test_deep_values(self):
        self.assertIs(is_share(deep(50000)), False)
        self.assertIs(is_share((deep(50000), 2)), False)


class IsWork(PlainCase):
    def test_one_to_six_states(self):
        for many in range(1, 7):
            self.tells(True, is_work, chain(many))
            self.tells(True, is_work, ring(many))
            self.tells(True, is_work, work_of([range(many)] * many))

    def test_seven_states_or_none(self):
        for many in (7, 8, 20):
            self.tells(False, is_work, chain(many))
            self.tells(False, is_work, ring(many))
            self.tells(False, is_work, work_of([[0]] * many))
        self.tells(False, is_work, ())

    def test_every_row_of_moves(self):
        for many in range(1, 7):
            for row in rows_of_moves(many):
                self.tells(True, is_work, work_of([row] * many))

    def test_drawn_works(self):
        for rows in drawn_rows():
            self.tells(True, is_work, work_of(rows))

    def test_chances_that_differ(self):
        for moves in (
            ((0, (1, GREAT)), (1, (GREAT - 1, GREAT))),
            ((0, (1, 2)), (1, (1, 3)), (2, (1, 6))),
            ((1, (5, 6)), (2, (1, 6))),
        ):
            self.tells(True, is_work, with_moves(moves))

    def test_any_fraction_is_a_pay(self):
        for pay in ((0, 1), (-5, 1), (7, 3), (GREAT, 1), (-1, GREAT), (-GREAT, GREAT + 1)):
            self.tells(True, is_work, with_row((pay, ((1, SURE),))))

    def test_a_pay_that_is_no_fraction(self):
        for pay in NOT_FRACTIONS:
            self.tells(False, is_work, with_row((pay, ((1, SURE),))))
            self.tells(False, is_work, ((pay, ((0, SURE),)),))

    def test_a_chance_that_is_no_fraction(self):
        for chance in NOT_FRACTIONS:
            self.tells(False, is_work, with_moves(((1, chance),)))
            self.tells(False, is_work, with_moves(((0, HALF), (1, chance), (2, HALF))))

    def test_chances_whose_pairs_are_not_in_lowest_terms(self):
        for by in (2, 3, -1, GREAT):
            self.tells(False, is_work, with_moves(((0, (by, 2 * by)), (1, HALF))))
            self.tells(False, is_work, with_moves(((0, HALF), (1, (by, 2 * by)))))

    def test_wrong_moves(self):
        self.tells(True, is_work, with_moves(((1, SURE),)))
        for why, moves in WRONG_MOVES:
            with self.subTest(why, moves=moves):
                self.tells(False, is_work, with_moves(moves))
                self.tells(False, is_work, (((1, 1), moves), LAST, FIRST))
                self.tells(False, is_work, (FIRST, LAST, ((1, 1), moves)))

    def test_a_list_at_any_depth(self):
        for value in WITH_LISTS:
            self.tells(False, is_work, value)

    def test_a_state_of_another_form(self):
        good = ((1, 1), ((1, SURE),))
        self.tells(True, is_work, with_row(good))
        for row in (
            (), good[:1], good + (1,), good + ((1, SURE),), good[::-1], ((1, 1), (1, 1)),
            None, True, False, 0, 1, "", "ab", "a", (None, None), (1, 1), ((1, 1),), (good,),
        ):
            self.tells(False, is_work, with_row(row))
            self.tells(False, is_work, (row,))

    def test_other_values(self):
        for value in NOT_PAIRS + NOT_LOWEST + [(HALF,), HALF, SURE, (1, ((0, SURE),)), "abcdef", EXAMPLE[0]]:
            self.tells(False, is_work, value)

    def test_deep_and_long_values(self):
        self.assertIs(is_work(deep(50000)), False)
        self.assertIs(is_work((((1, 1), deep(50000)),)), False)
        self.assertIs(is_work(with_moves(tuple((k, (1, 100000)) for k in range(100000)))), False)
        self.assertIs(is_work(((1, 1),) * 100000), False)


class Reached(PlainCase):
    def check(self, rows):
        work = work_of(rows)
        wanted = closure(rows)
        for state in range(len(rows)):
            self.assertEqual(self.call(reached, work, state), wanted[state])

    def test_chains(self):
        for many in range(1, 7):
            for state in range(many):
                self.assertEqual(self.call(reached, chain(many), state), list(range(state, many)))

    def test_chains_downwards(self):
        for many in range(1, 7):
            work = work_of([[max(k - 1, 0)] for k in range(many)])
            for state in range(many):
                self.assertEqual(self.call(reached, work, state), list(range(state + 1)))

    def test_rings(self):
        for many in range(1, 7):
            for state in range(many):
                self.assertEqual(self.call(reached, ring(many), state), list(range(many)))

    def test_states_that_stay(self):
        work = work_of([[k] for k in range(6)])
        for state in range(6):
            self.assertEqual(self.call(reached, work, state), [state])

    def test_a_state_that_is_not_come_back_to(self):
        work = work_of([[1], [2], [1]])
        self.assertEqual([reached(work, k) for k in range(3)], [[0, 1, 2], [1, 2], [1, 2]])

    def test_two_moves_each(self):
        self.check([[1, 2], [3, 4], [4, 5], [3, 4], [3, 4], [2, 5]])
        self.check([[0, 1], [0, 1], [3, 4], [2, 5], [0, 2], [4, 5]])
        for rows in product(list(combinations(range(4), 2)), repeat=4):
            self.check(rows)

    def test_every_work_of_up_to_three_states(self):
        for many in (1, 2, 3):
            for rows in product(rows_of_moves(many), repeat=many):
                self.check(rows)

    def test_drawn_works_of_four_to_six_states(self):
        for rows in drawn_rows():
            self.check(rows)

    def test_the_answer_is_a_list_of_integers(self):
        told = reached(EXAMPLE, 0)
        self.assertIs(type(told), list)
        self.assertEqual([type(entry) for entry in told], [int] * 3)

    def test_each_list_is_a_new_one(self):
        for work in (chain(6), ring(3), EXAMPLE):
            first = reached(work, 0)
            wanted = list(first)
            first.append("more")
            second = reached(work, 0)
            self.assertIsNot(first, second)
            self.assertEqual(second, wanted)

    def test_no_work(self):
        for work in WITH_LISTS + NOT_PAIRS + [(), chain(7), with_moves(((1, HALF),)), with_moves(())]:
            for state in (0, 1, -1, 7, True, None, "0", (0,)):
                self.refuses(NoWork, reached, work, state)

    def test_no_state(self):
        for many in range(1, 7):
            for state in (
                -1, -many, many, many + 1, GREAT, -GREAT, True, False, None, "", "0", "text",
                (), (0,), [], [0], (0, 1), ((0, 1), ((0, (1, 1)),)),
            ):
                self.refuses(NoState, reached, chain(many), state)
                self.refuses(NoState, reached, ring(many), state)

    def test_a_refusal_leaves_nothing_behind(self):
        self.refuses(NoState, reached, EXAMPLE, 3)
        self.refuses(NoWork, reached, list(EXAMPLE), 3)
        self.assertEqual(reached(EXAMPLE, 0), [0, 1, 2])


if __name__ == "__main__":
    unittest.main()
