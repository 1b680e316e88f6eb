"""Companies of works, their standings, and the values of plans."""

from nextwork.plans import first_better, values_by
from nextwork.quotients import is_whole
from nextwork.works import is_state, is_work, need_share, with_entry
from nextwork.wrongs import NoCompany, NoPlan, NoStanding

MOST_WORKS = 3
MOST_STANDINGS = 12


def is_company(value):
    """True if the value is a company, otherwise False."""
    if not isinstance(value, tuple) or not 1 <= len(value) <= MOST_WORKS:
        return False
    many = 1
    for work in value:
        if not is_work(work):
            return False
        many = many * len(work)
    return many <= MOST_STANDINGS


def is_number_of_work(company, value):
    """True if the value is the number of a work of the company."""
    return is_whole(value) and 0 <= value < len(company)


def is_standing(company, value):
    """True if the value is a standing of the company."""
    if not isinstance(value, tuple) or len(value) != len(company):
        return False
    return all([is_state(work, state) for work, state in zip(company, value)])


def is_plan(company, value):
    """True if the value is a plan of the company."""
    return are_works(company, value, len(all_standings(company)))


def are_works(company, value, many):
    """True if the value is a tuple of so many numbers of works of the company."""
    if not isinstance(value, tuple) or len(value) != many:
        return False
    return all(is_number_of_work(company, entry) for entry in value)


def need_company(value):
    """Raise NoCompany unless the value is a company."""
    if not is_company(value):
        raise NoCompany("not a company")


def need_standing(company, value):
    """Raise NoStanding unless the value is a standing of the company."""
    if not is_standing(company, value):
        raise NoStanding("not a standing of the company")


def need_plan(company, value):
    """Raise NoPlan unless the value is a plan of the company."""
    if not is_plan(company, value):
        raise NoPlan("not a plan of the company")


def all_standings(company):
    """The ascending list of the standings of what is known to be a company."""
    found = [()]
    for work in company:
        found = [front + (state,) for front in found for state in range(len(work))]
    return found


def standings(company):
    """The ascending list of the standings."""
    need_company(company)
    return all_standings(company)


def steps_of(company, standing):
    """For each work the tuple (pay, moves to standings) of going on with it there."""
    found = []
    for work, state in enumerate(standing):
        pay, moves = company[work][state]
        found.append((pay, [(with_entry(standing, work, target), chance) for target, chance in moves]))
    return found


def all_steps(company):
    """The dict of the steps of all standings, ascending."""
    return {standing: steps_of(company, standing) for standing in all_standings(company)}


def plan_values(company, share, plan):
    """The tuple of the values of the standings by the plan."""
    need_company(company)
    need_share(share)
    need_plan(company, plan)
    return tuple(values_by(share, all_steps(company), plan).values())


def better_at(company, share, plan):
    """The least tuple (standing, work) where the work brings more than the plan, or None."""
    need_company(company)
    need_share(share)
    need_plan(company, plan)
    steps = all_steps(company)
    return first_better(share, steps, values_by(share, steps, plan))
