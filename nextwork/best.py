"""The best values of a company, and rules, which may err."""

from nextwork.companies import all_standings, need_company, plan_values
from nextwork.numbers import numbers
from nextwork.quotients import common_bottom, is_whole, minus
from nextwork.works import need_share
from nextwork.wrongs import NoRule


def all_pairs(company):
    """The ascending list of the pairs (work, state) of what is known to be a company."""
    return [(number, state) for number, work in enumerate(company) for state in range(len(work))]


def plan_by_numbers(company, share):
    """The plan that goes on with the least of the works whose states have the greatest number."""
    return plan_of(company, rule_by_numbers(company, share))


def best_values(company, share):
    """The tuple of the best values of the standings."""
    need_company(company)
    need_share(share)
    return plan_values(company, share, plan_by_numbers(company, share))


def rule_by_numbers(company, share):
    """The rule that has the pairs with greater numbers first, equal ones ascending."""
    need_company(company)
    need_share(share)
    return _greatest_first(company, [numbers(work, share) for work in company])


def rule_by_pays(company):
    """The rule that has the pairs with greater pays first, equal ones ascending."""
    need_company(company)
    return _greatest_first(company, [[pay for pay, _ in work] for work in company])


def _greatest_first(company, told):
    """The rule by what is told, a fraction for each state of each work."""
    pairs = all_pairs(company)
    values = [told[work][state] for work, state in pairs]
    # Over one bottom the tops stand in the order of the fractions.
    common = common_bottom(values)
    rows = sorted([(-top * (common // bottom), pair) for (top, bottom), pair in zip(values, pairs)])
    return tuple([pair for _, pair in rows])


def has_all_pairs(company, value):
    """True if the value is a rule of what is known to be a company."""
    pairs = all_pairs(company)
    if not isinstance(value, tuple) or len(value) != len(pairs):
        return False
    # Looked at one by one first: True is no number, and what is nested deep is not compared.
    if not all(_is_whole_pair(entry) for entry in value):
        return False
    return sorted(value) == pairs


def _is_whole_pair(value):
    """True if the value is a tuple of two integers."""
    return isinstance(value, tuple) and len(value) == 2 and is_whole(value[0]) and is_whole(value[1])


def is_rule(company, value):
    """True if the value is a rule of the company, otherwise False."""
    need_company(company)
    return has_all_pairs(company, value)


def need_rule(company, value):
    """Raise NoRule unless the value is a rule of the company."""
    if not has_all_pairs(company, value):
        raise NoRule("not a rule of the company")


def plan_of(company, rule):
    """The plan of what is known to be a rule."""
    places = {pair: place for place, pair in enumerate(rule)}
    found = []
    for standing in all_standings(company):
        first = min([places[pair] for pair in enumerate(standing)])
        work, _ = rule[first]
        found.append(work)
    return tuple(found)


def rule_plan(company, rule):
    """The plan of the rule: at each standing the work whose pair stands first."""
    need_company(company)
    need_rule(company, rule)
    return plan_of(company, rule)


def loss(company, share, rule):
    """("errs", standing, loss) with the least standing at which the rule errs, or ("best",)."""
    need_company(company)
    need_share(share)
    need_rule(company, rule)
    best = best_values(company, share)
    values = plan_values(company, share, plan_of(company, rule))
    for standing, most, value in zip(all_standings(company), best, values):
        if value != most:
            return ("errs", standing, minus(most, value))
    return ("best",)
