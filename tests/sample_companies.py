"""Companies, plans and the like, and what the words say of them, that several tests share."""

import random
from fractions import Fraction
from itertools import product

from nextwork.numbers import numbers
from samples import NOT_FRACTIONS, NOT_WORKS, chain, drawn_work, exact, pair, ring, with_pays, work_of

EXAMPLE = ((((3, 1), ((1, (1, 1)),)), ((0, 1), ((1, (1, 1)),))), (((2, 1), ((0, (1, 1)),)),))
ONE = (((2, 1), ((0, (1, 1)),)),)
HALF = (1, 2)

# The numbers of states of the works of a company, up to the most that there may be.
SIZES = [
    (1,), (2,), (6,), (1, 1), (2, 2), (3, 2), (1, 6), (6, 2), (2, 6), (3, 4), (4, 3),
    (1, 1, 1), (2, 1, 2), (1, 4, 1), (2, 2, 2), (2, 2, 3), (3, 2, 2), (2, 1, 6), (1, 4, 3),
]
TOO_MANY = [
    (3, 5), (5, 3), (4, 4), (6, 3), (6, 6), (2, 2, 4), (3, 3, 2), (5, 1, 3), (1, 3, 5), (6, 6, 6),
]


def drawn_company(draw, sizes):
    return tuple(drawn_work(draw, many, draw.choice([1, 2, many])) for many in sizes)


def drawn_companies(seed, each=1):
    """So many companies of each of the sizes, the same in each run."""
    draw = random.Random(seed)
    return [drawn_company(draw, sizes) for sizes in SIZES for _ in range(each)]


def all_standings(company):
    return list(product(*[range(len(work)) for work in company]))


def drawn_plan(draw, company):
    return tuple(draw.randrange(len(company)) for _ in all_standings(company))


def all_plans(company):
    return list(product(range(len(company)), repeat=len(all_standings(company))))


def plan_by_numbers(company, share):
    """At each standing the least of the works whose states have the greatest number."""
    told = [[exact(number) for number in numbers(work, share)] for work in company]
    found = []
    for standing in all_standings(company):
        here = [told[work][state] for work, state in enumerate(standing)]
        found.append(here.index(max(here)))
    return tuple(found)


def brought(company, share, standing, work, values):
    """The pay of going on with the work, plus the share times the mean of the values behind it."""
    pay, moves = company[work][standing[work]]
    behind = Fraction(0)
    for state, chance in moves:
        target = list(standing)
        target[work] = state
        behind += exact(chance) * values[tuple(target)]
    return exact(pay) + exact(share) * behind


def value_table(company, values):
    return {standing: exact(value) for standing, value in zip(all_standings(company), values)}


def first_better(company, share, values):
    """The least tuple (standing, work) that brings more than the value, or None."""
    table = value_table(company, values)
    for standing in sorted(table):
        for work in range(len(company)):
            if brought(company, share, standing, work, table) > table[standing]:
                return (standing, work)
    return None


def best_table(company, share, values):
    """Whether at each standing the value is the most that a work brings by the values: the best values are so."""
    return all(
        value == max(brought(company, share, standing, work, values) for work in range(len(company)))
        for standing, value in values.items()
    )


def all_pairs(company):
    return [(number, state) for number, work in enumerate(company) for state in range(len(work))]


def drawn_rule(draw, company):
    return tuple(draw.sample(all_pairs(company), len(all_pairs(company))))


def plan_by_rule(company, rule):
    """At each standing the work whose pair with its state stands first."""
    return tuple(
        min(range(len(company)), key=lambda work: rule.index((work, standing[work])))
        for standing in all_standings(company)
    )


def as_lists(value):
    """The value with lists for its tuples at one place after the other, at any depth."""
    if not isinstance(value, tuple):
        return []
    found = [list(value)]
    for at, entry in enumerate(value):
        found.extend(value[:at] + (other,) + value[at + 1:] for other in as_lists(entry))
    return found


NOT_COMPANIES = (
    [(work,) for work in NOT_WORKS] + [(ONE, work) for work in NOT_WORKS] + [(work, ONE) for work in NOT_WORKS]
    + [
        None, True, False, 0, 1, "", "ab", (), [], ONE, chain(3), [ONE], [ONE, ONE], (ONE,) * 4, (ONE,) * 5,
        (ONE, ONE, ONE, chain(2)), (EXAMPLE,), (ONE, EXAMPLE), (1, 2), ((),), ((), ()),
    ]
    + [tuple(chain(many) for many in sizes) for sizes in TOO_MANY]
)


def not_plans(company):
    """What is not a plan of the company."""
    good = (0,) * len(all_standings(company))
    found = [
        None, True, False, 0, 1, "", "0" * len(good), (), [], list(good), good + (0,), good[1:], good + good,
        (good,), [good],
    ]
    for entry in (len(company), len(company) + 1, -1, -len(company), 10 ** 30, True, False, None, "0", (0,), [0], ()):
        found.append((entry,) + good[1:])
        found.append(good[:-1] + (entry,))
    return found


NOT_PRICES = NOT_FRACTIONS + [(-1, 1), (-1, 2), (-7, 3), (-1, 10 ** 300), (-10 ** 300, 1)]


def not_standings(company):
    """What is not a standing of the company."""
    good = (0,) * len(company)
    found = [
        None, True, False, 0, 1, "", "0" * len(good), (), [], list(good), good + (0,), good[1:], good + good,
        (good,), [good], [[0]] * len(good),
    ]
    for at, work in enumerate(company):
        for entry in (len(work), len(work) + 1, -1, 10 ** 30, True, False, None, "0", (0,), [0], ()):
            found.append(good[:at] + (entry,) + good[at + 1:])
    return found


def not_rules(company):
    """What is not a rule of the company."""
    good = tuple(reversed(all_pairs(company)))
    found = [
        None, True, False, 0, 1, "", "ab", (), [], list(good), good[1:], good[:-1], good + good[:1], good + good,
        good[:-1] + good[:1] if len(good) > 1 else (), (good,), [good], tuple(list(entry) for entry in good),
        good[:-1] + ((len(company), 0),), good[:-1] + ((0, 6),), ((0, -1),) + good[1:], ((-1, 0),) + good[1:],
        tuple((state, work) for work, state in good) + ((0, 0),), tuple(entry + (0,) for entry in good),
        tuple(work for work, _ in good), "01" * len(good), (None,) * len(good), ("00",) * len(good),
    ]
    for at in range(len(good)):
        work, state = good[at]
        for entry in (
            (work, bool(state)) if state < 2 else (work, None), (bool(work), state) if work < 2 else (None, state),
            [work, state], (work,), (work, state, 0), work, (str(work), state), (work, (state,)), ((work, state),),
        ):
            found.append(good[:at] + (entry,) + good[at + 1:])
    return found


def equal_companies():
    """Companies in which many states have equal numbers or equal pays, and equal works."""
    four = (((4, 1), ((1, (1, 1)),)), ((0, 1), ((1, (1, 1)),)))
    swing = with_pays(ring(2), [4, 4])
    even = with_pays(work_of([[0, 1], [0, 1]]), [4, 0])
    return [
        (ONE, ONE), (ONE,) * 3, (four, four), (four, four, ONE), (four, four, four), (swing, four), (swing, swing),
        (even, even), (even, swing, ONE), (with_pays(chain(3), [2] * 3), ONE), (ONE, with_pays(chain(3), [2] * 3)),
        (with_pays(ring(6), [2] * 6), with_pays(ring(2), [2, 2])), (with_pays(ring(3), [1, 2, 3]),) * 2,
        (with_pays(ring(3), [1, 2, 3]), with_pays(ring(3), [3, 1, 2])), (ring(2), ring(2), ring(3)),
    ]


def great_companies():
    """Companies with pays of hundreds of digits, and with pays that differ by very little."""
    draw = random.Random(301)
    found = []
    for sizes in ((1,), (2, 2), (6, 2), (2, 2, 3)):
        for kind in range(3):
            company = drawn_company(draw, sizes)
            found.append(tuple(with_pays(work, [_great_pay(draw, kind) for _ in work]) for work in company))
    return found


def _great_pay(draw, kind):
    if kind == 0:
        return Fraction(draw.randint(-10 ** 300, 10 ** 300), draw.randint(1, 10 ** 300))
    if kind == 1:
        return 1 + Fraction(draw.randint(-9, 9), 10 ** 300)
    return Fraction(draw.randint(-9, 9), 7 ** 300)


def all_choices(company):
    """All tuples (standing, work)."""
    return list(product(all_standings(company), range(len(company))))


def drawn_choices(draw, company, many):
    """So many choices that no rule need make."""
    return tuple(draw.choice(all_choices(company)) for _ in range(many))


def choices_by(draw, company, rule, many):
    """So many choices that the rule makes."""
    made = list(zip(all_standings(company), plan_by_rule(company, rule)))
    return tuple(draw.choice(made) for _ in range(many))


def made_by(company, choices, rule):
    """Whether the rule makes all choices."""
    return all(
        all(rule.index((work, standing[work])) <= rule.index(pair) for pair in enumerate(standing))
        for standing, work in choices
    )


def ring_by_words(choices, value):
    """Whether the tuple of numbers of choices is a ring."""
    for at, number in enumerate(value):
        standing, work = choices[number]
        target, first = choices[value[(at + 1) % len(value)]]
        if first == work or standing[first] != target[first]:
            return False
    return True


def not_choices(company):
    """What is not choices of the company."""
    good = ((0,) * len(company), 0)
    found = [
        None, True, False, 0, 1, "", "ab", [], [good], good, good[0], (good,) * 21, (good,) * 1000,
        ((good,),), ([good],), (list(good),), (good, good[::-1]), ((),), (None,), (0,), ("00",),
        (good[:1],), (good + (0,),), (good, good[:1]), ((list(good[0]), 0),),
    ]
    for standing in not_standings(company):
        found.extend([((standing, 0),), (good, (standing, 0)), ((standing, 0), good)])
    for work in (len(company), len(company) + 1, -1, 10 ** 30, True, False, None, "0", (0,), [0], ()):
        found.extend([((good[0], work),), (good, (good[0], work)), ((good[0], work), good)])
    return found
