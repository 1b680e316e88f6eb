"""Prices for changing over: what plans bring if one pays for going on with another work."""

from nextwork.best import plan_by_numbers
from nextwork.companies import all_standings, all_steps, are_works, need_company
from nextwork.plans import best_by, values_by
from nextwork.quotients import is_fraction, minus
from nextwork.works import need_share
from nextwork.wrongs import NoPlan, NoPrice, TooMany

MOST_PLACES = 12


def need_price(value):
    """Raise NoPrice unless the value is a price."""
    if not is_fraction(value) or value[0] < 0:
        raise NoPrice("not a price")


def _need_places(company, share, price):
    """Refuse what is not a company, a share and a price, and more places than there may be."""
    need_company(company)
    need_share(share)
    need_price(price)
    if len(all_standings(company)) * len(company) > MOST_PLACES:
        raise TooMany(MOST_PLACES)


def _priced_steps(company, price):
    """The dict of the steps of all places (standing, last), ascending."""
    return {
        (standing, last): _priced(ways, price, last)
        for standing, ways in all_steps(company).items()
        for last in range(len(company))
    }


def _priced(ways, price, last):
    """For each work the tuple (pay, moves to places), the price taken off the pays of all but the last one."""
    found = []
    for work, (pay, moves) in enumerate(ways):
        brought = pay if work == last else minus(pay, price)
        found.append((brought, [((standing, work), chance) for standing, chance in moves]))
    return found


def change_values(company, share, price, plan):
    """The tuple of the values of the places by the plan for places."""
    _need_places(company, share, price)
    steps = _priced_steps(company, price)
    if not are_works(company, plan, len(steps)):
        raise NoPlan("not a plan for the places")
    return tuple(values_by(share, steps, plan).values())


def _plan_by_numbers(company, share):
    """The plan for places that goes by the numbers, whatever the last work was."""
    return [work for work in plan_by_numbers(company, share) for _ in company]


def best_with_changes(company, share, price):
    """The tuple of the best values of the places."""
    _need_places(company, share, price)
    steps = _priced_steps(company, price)
    return tuple(best_by(share, steps, _plan_by_numbers(company, share)).values())


def change_loss(company, share, price):
    """("errs", standing, last, loss) with the least place at which the plan by numbers errs, or ("best",)."""
    _need_places(company, share, price)
    steps = _priced_steps(company, price)
    plan = _plan_by_numbers(company, share)
    values = values_by(share, steps, plan)
    best = best_by(share, steps, plan)
    for (standing, last), value in values.items():
        most = best[(standing, last)]
        if value != most:
            return ("errs", standing, last, minus(most, value))
    return ("best",)
