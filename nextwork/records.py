"""Records of what was told, and whether it is right."""

from nextwork.best import has_all_pairs
from nextwork.chains import one_step
from nextwork.companies import (
    all_standings, better_at, is_company, is_number_of_work, is_plan, is_standing, plan_values, steps_of,
)
from nextwork.quotients import are_fractions, compare, is_fraction
from nextwork.seen import are_choices, are_numbers_of_choices, closes, makes_all
from nextwork.shown import are_heights, is_ceiling, is_floor
from nextwork.works import are_states, is_share, is_state, is_work
from nextwork.wrongs import NoRecord

# Each of the following tells the number of the first condition of its form
# that does not hold, or None if all hold.


def _wrong_bound(work, share, state, bound):
    """Of the conditions that a floor and a ceiling begin with."""
    if not is_work(work) or not is_share(share):
        return 0
    if not is_state(work, state):
        return 1
    if not is_fraction(bound):
        return 2
    return None


def _wrong_floor(work, share, state, bound, states):
    wrong = _wrong_bound(work, share, state, bound)
    if wrong is not None:
        return wrong
    if not are_states(work, states):
        return 3
    return None if is_floor(work, share, state, bound, states) else 4


def _wrong_ceiling(work, share, state, bound, heights):
    wrong = _wrong_bound(work, share, state, bound)
    if wrong is not None:
        return wrong
    if not are_heights(work, heights):
        return 3
    return None if is_ceiling(work, share, state, bound, heights) else 4


def _wrong_values(company, share, plan, values):
    """Of the conditions that "best" and "better" begin with."""
    if not is_company(company) or not is_share(share):
        return 0
    if not is_plan(company, plan):
        return 1
    if not are_fractions(values, len(plan)):
        return 2
    return None if plan_values(company, share, plan) == values else 3


def _wrong_best(company, share, plan, values):
    wrong = _wrong_values(company, share, plan, values)
    if wrong is not None:
        return wrong
    # The values are those of the plan here.
    return None if better_at(company, share, plan) is None else 4


def _wrong_better(company, share, plan, values, standing, work):
    wrong = _wrong_values(company, share, plan, values)
    if wrong is not None:
        return wrong
    if not is_standing(company, standing) or not is_number_of_work(company, work):
        return 4
    by_standing = dict(zip(all_standings(company), values))
    pay, moves = steps_of(company, standing)[work]
    brought = one_step(share, pay, moves, by_standing)
    return None if compare(brought, by_standing[standing]) > 0 else 5


def _wrong_choices(company, choices):
    """Of the conditions that "rule" and "ring" begin with."""
    if not is_company(company):
        return 0
    return None if are_choices(company, choices) else 1


def _wrong_rule(company, choices, rule):
    wrong = _wrong_choices(company, choices)
    if wrong is not None:
        return wrong
    if not has_all_pairs(company, rule):
        return 2
    return None if makes_all(company, choices, rule) else 3


def _wrong_ring(company, choices, numbers):
    wrong = _wrong_choices(company, choices)
    if wrong is not None:
        return wrong
    if not are_numbers_of_choices(choices, numbers):
        return 2
    return None if closes(choices, numbers) else 3


# How many entries a record of each form has, and what looks at all but the first.
LENGTHS = {"floor": 6, "ceiling": 6, "best": 5, "better": 7, "rule": 4, "ring": 4}
LOOKS = {
    "floor": _wrong_floor,
    "ceiling": _wrong_ceiling,
    "best": _wrong_best,
    "better": _wrong_better,
    "rule": _wrong_rule,
    "ring": _wrong_ring,
}


def _is_record(value):
    """True if the value is a tuple of one of the forms, by its first entry and its length."""
    if not isinstance(value, tuple) or not value:
        return False
    form = value[0]
    # Only a text is looked up: a list is no key.
    if not isinstance(form, str) or form not in LENGTHS:
        return False
    return len(value) == LENGTHS[form]


def judge(record):
    """("right",), or ("wrong", k) with the number of the first condition that does not hold."""
    if not _is_record(record):
        raise NoRecord("not a tuple of one of the forms")
    look = LOOKS[record[0]]
    entries = record[1:]
    wrong = look(*entries)
    return ("right",) if wrong is None else ("wrong", wrong)
