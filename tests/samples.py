"""Values and checks that several tests share."""

import unittest

from nextwork.wrongs import WorkError

GREAT = 7 ** 400
OTHER_GREAT = 10 ** 700 + 9

# Each of them is a fraction, as point 4 of the document says.
FRACTIONS = [
    (0, 1), (1, 1), (-1, 1), (2, 1), (-7, 1),
    (1, 2), (-1, 2), (2, 3), (-3, 2), (5, 6), (-10, 21), (99, 100), (101, 100),
    (GREAT, 1), (-GREAT, 1), (1, GREAT), (-1, GREAT),
    (GREAT, GREAT + 1), (-GREAT - 1, GREAT), (7 ** 500, 3 ** 900), (-2 ** 2000, 5 ** 800),
]

# Values of all kinds that are no integers.
NOT_INTEGERS = [
    True, False, None, "", "1", "ab", "text", (), [], (1,), [1], (1, 1), [1, 2],
    (0, 1), ("a", "b"), [[1], [2]], ((1, 2), (3, 4)), (1, (2, (3, [4]))),
]

# Values of all kinds that are no tuples of two integers.
NOT_PAIRS = [
    True, False, None, 0, 1, -1, GREAT, "", "1", "12", "ab", "1/2",
    (), [], (1,), (0,), (1, 1, 1), (0, 1, 1), (1, 2, 3, 4), [1, 2], [0, 1], [1], ["1", "2"],
    ((1, 2),), ((1, 2), (3, 4)), ([1], [2]), ((1,), (2,)), (1, (2,)), ((1,), 2), (1, [2]), ([1], 2),
    (True, 1), (False, 1), (1, True), (0, True), (-3, True), (True, True), (False, True), (True, 2),
    (1, False), (False, False), (None, 1), (1, None), (None, None),
    ("1", 1), (1, "2"), ("1", "2"), ("", 1), (1, ""), ("a", "b"),
]

# Tuples of two integers that are no fractions all the same.
NOT_LOWEST = [
    (2, 4), (4, 2), (2, 2), (-2, 2), (-2, 4), (6, 9), (-6, 9), (21, 14), (5, 5), (100, 10),
    (0, 2), (0, 3), (0, GREAT), (GREAT, GREAT), (2 * GREAT, 2), (-GREAT, 7), (7, GREAT),
    (3 * OTHER_GREAT, 3 * OTHER_GREAT + 3),
    (1, 0), (0, 0), (-1, 0), (GREAT, 0),
    (1, -1), (0, -1), (1, -2), (-1, -2), (2, -4), (-2, -4), (1, -GREAT), (-GREAT, -1),
]

NOT_FRACTIONS = NOT_PAIRS + NOT_LOWEST


def deep(depth):
    """A tuple that is nested so deep that no function may follow it down."""
    value = ()
    for _ in range(depth):
        value = (value, value)
    return value


def chain(many):
    """A work whose states lead each to the next, the last to itself."""
    return tuple(((k, 1), ((min(k + 1, many - 1), (1, 1)),)) for k in range(many))


def ring(many):
    """A work whose states lead each to the next, the last to the first."""
    return tuple(((-k, 1), (((k + 1) % many, (1, 1)),)) for k in range(many))


def work_of(rows):
    """A work whose states move to the told ones, all with equal chances."""
    return tuple(
        ((k, k + 1), tuple((target, (1, len(row))) for target in row))
        for k, row in enumerate(rows)
    )


class PlainCase(unittest.TestCase):
    """Looks after each call whether the arguments are as they were."""

    def call(self, function, *arguments):
        before = repr(arguments)
        try:
            return function(*arguments)
        finally:
            self.assertEqual(repr(arguments), before)

    def refuses(self, error, function, *arguments):
        with self.assertRaises(WorkError) as caught:
            self.call(function, *arguments)
        self.assertIs(type(caught.exception), error)

    def tells(self, wanted, function, *arguments):
        """The answer is wanted itself: True for True, not 1."""
        self.assertIs(self.call(function, *arguments), wanted, arguments)
