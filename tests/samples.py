"""Values and checks that several tests share."""

import random
import time
import unittest
from fractions import Fraction
from itertools import combinations

from nextwork.wrongs import WorkError

GREAT = 7 ** 400
OTHER_GREAT = 10 ** 700 + 9

# Each of them is a fraction, as point 4 of the document says.
FRACTIONS = [
    (0, 1), (1, 1), (-1, 1), (2, 1), (-7, 1),
    (1, 2), (-1, 2), (2, 3), (-3, 2), (5, 6), (-10, 21), (99, 100), (101, 100),
    (GREAT, 1), (-GREAT, 1), (1, GREAT), (-1, GREAT),
    (GREAT, GREAT + 1), (-GREAT - 1, GREAT), (7 ** 500, 3 ** 900), (-2 ** 2000, 5 ** 800),
]

# Values of all kinds that are no integers.
NOT_INTEGERS = [
    True, False, None, "", "1", "ab", "text", (), [], (1,), [1], (1, 1), [1, 2],
    (0, 1), ("a", "b"), [[1], [2]], ((1, 2), (3, 4)), (1, (2, (3, [4]))),
]

# Values of all kinds that are no tuples of two integers.
NOT_PAIRS = [
    True, False, None, 0, 1, -1, GREAT, "", "1", "12", "ab", "1/2",
    (), [], (1,), (0,), (1, 1, 1), (0, 1, 1), (1, 2, 3, 4), [1, 2], [0, 1], [1], ["1", "2"],
    ((1, 2),), ((1, 2), (3, 4)), ([1], [2]), ((1,), (2,)), (1, (2,)), ((1,), 2), (1, [2]), ([1], 2),
    (True, 1), (False, 1), (1, True), (0, True), (-3, True), (True, True), (False, True), (True, 2),
    (1, False), (False, False), (None, 1), (1, None), (None, None),
    ("1", 1), (1, "2"), ("1", "2"), ("", 1), (1, ""), ("a", "b"),
]

# Tuples of two integers that are no fractions all the same.
NOT_LOWEST = [
    (2, 4), (4, 2), (2, 2), (-2, 2), (-2, 4), (6, 9), (-6, 9), (21, 14), (5, 5), (100, 10),
    (0, 2), (0, 3), (0, GREAT), (GREAT, GREAT), (2 * GREAT, 2), (-GREAT, 7), (7, GREAT),
    (3 * OTHER_GREAT, 3 * OTHER_GREAT + 3),
    (1, 0), (0, 0), (-1, 0), (GREAT, 0),
    (1, -1), (0, -1), (1, -2), (-1, -2), (2, -4), (-2, -4), (1, -GREAT), (-GREAT, -1),
]

NOT_FRACTIONS = NOT_PAIRS + NOT_LOWEST


def deep(depth):
    """A tuple that is nested so deep that no function may follow it down."""
    value = ()
    for _ in range(depth):
        value = (value, value)
    return value


def chain(many):
    """A work whose states lead each to the next, the last to itself."""
    return tuple(((k, 1), ((min(k + 1, many - 1), (1, 1)),)) for k in range(many))


def ring(many):
    """A work whose states lead each to the next, the last to the first."""
    return tuple(((-k, 1), (((k + 1) % many, (1, 1)),)) for k in range(many))


def work_of(rows):
    """A work whose states move to the told ones, all with equal chances."""
    return tuple(
        ((k, k + 1), tuple((target, (1, len(row))) for target in row))
        for k, row in enumerate(rows)
    )


def exact(value):
    """A fraction of the program as one of Python's own."""
    return Fraction(*value)


def pair(value):
    """A number of Python's own as a fraction of the program."""
    value = Fraction(value)
    return (value.numerator, value.denominator)


# The two that lie nearest to 0 and to 1 come last.
SHARES = [(1, 2), (2, 3), (1, 10), (99, 100), (1, 10 ** 30), (10 ** 30 - 1, 10 ** 30)]


def sets_of(many):
    """All sets of so many states, each as an ascending tuple."""
    return [row for size in range(many + 1) for row in combinations(range(many), size)]


def mean(moves, values):
    """The sum of the chances, each times the value of the state to which it moves."""
    return sum(exact(chance) * values[state] for state, chance in moves)


def drawn_moves(draw, many, most):
    """A row of at most so many moves, with chances that are not all equal."""
    targets = sorted(draw.sample(range(many), draw.randint(1, min(most, many))))
    parts = [draw.randint(1, 5) for _ in targets]
    return tuple((state, pair(Fraction(part, sum(parts)))) for state, part in zip(targets, parts))


def drawn_work(draw, many, most=6):
    """A work of so many states; equal pays are not rare."""
    return tuple(
        (pair(Fraction(draw.randint(-6, 12), draw.choice([1, 1, 1, 2, 3]))), drawn_moves(draw, many, most))
        for _ in range(many)
    )


def drawn_works(seed, sizes, each):
    """So many works of each size, the same in each run."""
    draw = random.Random(seed)
    return [drawn_work(draw, many, most) for many in sizes for most in (1, 2, many) for _ in range(each)]


def small_works(many, pays):
    """All works of so many states with the told pays, all of whose moves have equal chances."""
    rows = [()]
    for _ in range(many):
        rows = [front + (row,) for front in rows for row in sets_of(many) if row]
    return [with_pays(work_of(row), pays) for row in rows]


def with_pays(work, pays):
    """The work with other pays."""
    return tuple((pair(pay), moves) for pay, (_, moves) in zip(pays, work))


def with_pay(work, state, pay):
    """The work with another pay of the state."""
    return work[:state] + ((pair(pay), work[state][1]),) + work[state + 1:]


def great_works():
    """Works with pays of hundreds of digits, and with pays that differ by very little."""
    draw = random.Random(300)
    found = []
    for many in (1, 3, 6):
        moves = drawn_work(draw, many)
        long = [Fraction(draw.randint(-10 ** 400, 10 ** 400), draw.randint(1, 10 ** 400)) for _ in range(many)]
        close = [1 + Fraction(draw.randint(-9, 9), 10 ** 300) for _ in range(many)]
        tiny = [Fraction(draw.randint(-9, 9), 7 ** 300) for _ in range(many)]
        found.extend(with_pays(moves, pays) for pays in (long, close, tiny))
    return found


NOT_WORKS = [
    None, True, 0, "", "ab", (), [], (1, 1), chain(7), [((1, 1), ((0, (1, 1)),))],
    (((1, 1), ((0, (1, 2)),)),), (((2, 2), ((0, (1, 1)),)),), (((1, 1), ((1, (1, 1)),)),),
    (((1, 1), [(0, (1, 1))]),), (((1, 1), ((0, (2, 2)),)),), ((True, ((0, (1, 1)),)),),
    (((1, 1), ((False, (1, 1)),)),), (chain(2),),
]
NOT_SHARES = [
    (0, 1), (1, 1), (2, 1), (-1, 2), (3, 2), (2, 4), (1, 0), (-1, -2), (True, 2), (1, True),
    [1, 2], (1,), (1, 2, 3), ((1, 2),), (), None, True, False, 0, 1, "", "1/2",
]


def not_states(work):
    """What is not a state of the work."""
    return [
        -1, -len(work), len(work), len(work) + 1, GREAT, True, False, None, "", "0", (), (0,), [0], [],
    ]


def not_sets(work):
    """What is not an ascending tuple of different states of the work."""
    last = len(work) - 1
    found = [
        None, True, False, 0, 1, "", "0", [], [0], list(range(len(work))),
        (0, 0), (last, last), (0, last, last), (-1,), (-1, 0), (last + 1,), (0, last + 1), (GREAT,),
        (True,), (False,), (0, True), (None,), ("0",), ((),), ((0,),), ([0],), (0, None),
        tuple(range(len(work))) + (len(work),), (last, 0) if last else (0, 0), ((1, 1),),
    ]
    return found + [tuple(reversed(range(len(work))))] if last else found


class PlainCase(unittest.TestCase):
    """Looks after each call whether the arguments are as they were."""

    def call(self, function, *arguments):
        before = repr(arguments)
        try:
            return function(*arguments)
        finally:
            self.assertEqual(repr(arguments), before)

    def refuses(self, error, function, *arguments):
        with self.assertRaises(WorkError) as caught:
            self.call(function, *arguments)
        self.assertIs(type(caught.exception), error)

    def tells(self, wanted, function, *arguments):
        """The answer is wanted itself: True for True, not 1."""
        self.assertIs(self.call(function, *arguments), wanted, arguments)

    def refuses_in_order(self, function, good, wrong):
        """Each wrong argument is refused with its own error, whatever stands behind it.

        wrong has, for each argument that can be refused, the error and the values.
        """
        for at, (error, values) in enumerate(wrong):
            for turn, value in enumerate(values):
                self.refuses(error, function, *good[:at], value, *good[at + 1:])
                all_later = list(good)
                all_later[at] = value
                for later in range(at + 1, len(wrong)):
                    other = wrong[later][1][turn % len(wrong[later][1])]
                    self.refuses(error, function, *good[:at], value, *good[at + 1:later], other, *good[later + 1:])
                    all_later[later] = other
                self.refuses(error, function, *all_later)

    def is_a_fraction(self, value):
        self.assertIs(type(value), tuple)
        self.assertEqual([type(entry) for entry in value], [int, int])
        self.assertEqual(value, pair(exact(value)))

    def is_quick(self, function, *arguments):
        """Far more than a usual call takes, far less than one that goes through all plans would."""
        start = time.process_time()
        self.call(function, *arguments)
        self.assertLess(time.process_time() - start, 0.9)
