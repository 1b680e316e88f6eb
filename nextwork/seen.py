"""Rules told back: by which rule some choices were made, or a ring that shows that by none."""

from nextwork.best import all_pairs, need_rule, plan_of
from nextwork.companies import all_standings, is_number_of_work, is_standing, need_company
from nextwork.quotients import is_whole
from nextwork.wrongs import NoChoices

MOST_CHOICES = 20


def are_choices(company, value):
    """True if the value is choices of what is known to be a company."""
    if not isinstance(value, tuple) or len(value) > MOST_CHOICES:
        return False
    return all(_is_choice(company, entry) for entry in value)


def _is_choice(company, value):
    """True if the value is (standing, work) of the company."""
    if not isinstance(value, tuple) or len(value) != 2:
        return False
    standing, work = value
    return is_standing(company, standing) and is_number_of_work(company, work)


def need_choices(company, value):
    """Raise NoChoices unless the value is choices of the company."""
    if not are_choices(company, value):
        raise NoChoices("not choices of the company")


def _set_first(choice):
    """The pair that the choice sets first."""
    standing, work = choice
    return (work, standing[work])


def _left_out(choice):
    """The pairs that the choice leaves out."""
    standing, work = choice
    return [(other, state) for other, state in enumerate(standing) if other != work]


def rule_of(company, choices):
    """("rule", rule) with the least rule that makes all choices, or ("ring", numbers) if there is none."""
    need_company(company)
    need_choices(company, choices)
    left = all_pairs(company)
    rule = []
    while left:
        # A pair is free if no choice leaves it out for one that has no place yet.
        free = [pair for pair in left if not _why_not(choices, left, pair)]
        if not free:
            return ("ring", _ring_among(choices, left))
        rule.append(free[0])
        left.remove(free[0])
    return ("rule", tuple(rule))


def _why_not(choices, left, pair):
    """The numbers of the choices that leave out the pair and set first one of those left."""
    return [
        number for number, choice in enumerate(choices)
        if pair in _left_out(choice) and _set_first(choice) in left
    ]


def _ring_among(choices, left):
    """A ring of the choices, where none of the pairs left is free."""
    passed = []
    numbers = []
    pair = left[0]
    while pair not in passed:
        passed.append(pair)
        number = _why_not(choices, left, pair)[0]
        numbers.append(number)
        pair = _set_first(choices[number])
    # Each choice leaves out what the one before it sets first: a ring goes the other way.
    return tuple(reversed(numbers[passed.index(pair):]))


def makes_all(company, choices, rule):
    """True if what is known to be a rule makes all choices."""
    plan = dict(zip(all_standings(company), plan_of(company, rule)))
    return all(plan[standing] == work for standing, work in choices)


def makes(company, choices, rule):
    """True if the rule makes all choices, otherwise False."""
    need_company(company)
    need_choices(company, choices)
    need_rule(company, rule)
    return makes_all(company, choices, rule)


def are_numbers_of_choices(choices, value):
    """True if the value is a tuple of at least one number of choices."""
    if not isinstance(value, tuple) or not value:
        return False
    many = len(choices)
    return all(is_whole(number) and 0 <= number < many for number in value)


def closes(choices, numbers):
    """True if each choice leaves out the pair that the next one sets first, the last one that of the first."""
    behind = numbers[1:] + numbers[:1]
    return all([_set_first(choices[then]) in _left_out(choices[number]) for number, then in zip(numbers, behind)])


def is_ring(company, choices, value):
    """True if the value is a ring of the choices, otherwise False."""
    need_company(company)
    need_choices(company, choices)
    return are_numbers_of_choices(choices, value) and closes(choices, value)
