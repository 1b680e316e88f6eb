"""Works and companies made so that their numbers, or their choices, are the wanted ones."""

from nextwork.chains import one_step
from nextwork.companies import need_company
from nextwork.quotients import are_fractions, compare, greatest, minus
from nextwork.seen import need_choices, rule_of
from nextwork.shown import heights_within
from nextwork.works import need_share, need_work
from nextwork.wrongs import NoNumbers


def work_with(work, share, wanted):
    """The work with the same moves whose numbers are the wanted ones."""
    need_work(work)
    need_share(share)
    if not are_fractions(wanted, len(work)):
        raise NoNumbers("not a fraction for each state")
    # The pays of the states with greater numbers are told before those of the others,
    # which hang on them; what stands for the pays of the others does not count.
    pays = list(wanted)
    left = list(wanted)
    while left:
        number = greatest(left)
        left = [other for other in left if other != number]
        above = [state for state, other in enumerate(wanted) if compare(other, number) > 0]
        behind = heights_within(work, share, pays, number, above)
        for state, (_, moves) in enumerate(work):
            if wanted[state] == number:
                pays[state] = minus(number, one_step(share, (0, 1), moves, behind))
    return tuple([(pay, moves) for pay, (_, moves) in zip(pays, work)])


def company_for(company, share, choices):
    """("company", one) whose plan by numbers makes all choices, or ("ring", numbers) if there is none."""
    need_company(company)
    need_share(share)
    need_choices(company, choices)
    kind, told = rule_of(company, choices)
    if kind == "ring":
        return (kind, told)
    # All numbers are different, and those of the pairs that stand first are the greatest.
    numbers = {pair: (len(told) - place, 1) for place, pair in enumerate(told)}
    found = []
    for at, work in enumerate(company):
        wanted = tuple([numbers[(at, state)] for state in range(len(work))])
        found.append(work_with(work, share, wanted))
    return ("company", tuple(found))
