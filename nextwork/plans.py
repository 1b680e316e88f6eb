"""Plans for places, where at each place one of several works is gone on with.

The steps are a dict: each place, ascending, has for each work the tuple
(pay, moves), and the moves are a list of tuples (place, chance).
"""

from nextwork.chains import one_step, sums
from nextwork.quotients import compare


def values_by(share, steps, plan):
    """The dict of the values of the places by the plan, which has a work for each place."""
    numbered = {place: number for number, place in enumerate(steps)}
    chosen = [steps[place][work] for place, work in zip(steps, plan)]
    moves = [[(numbered[target], chance) for target, chance in row] for _, row in chosen]
    return dict(zip(steps, sums(share, [pay for pay, _ in chosen], moves)))


def first_better(share, steps, values):
    """The least tuple (place, work) where the work brings more than the value, or None."""
    for place in steps:
        for work, (pay, moves) in enumerate(steps[place]):
            if compare(one_step(share, pay, moves, values), values[place]) > 0:
                return (place, work)
    return None


def best_by(share, steps, plan):
    """The dict of the best values of the places, sought from the plan on."""
    # No plan comes twice, as the values rise each time; where they rise
    # nowhere no work brings more, and then no way of choosing does.
    values = values_by(share, steps, plan)
    bettered = _bettered(share, steps, plan, values)
    while bettered != plan:
        plan = bettered
        values = values_by(share, steps, plan)
        bettered = _bettered(share, steps, plan, values)
    return values


def _bettered(share, steps, plan, values):
    """The plan with, at each place, the work that brings most, the planned one if none brings more."""
    found = []
    for place, planned in zip(steps, plan):
        most = values[place]
        best = planned
        for work, (pay, moves) in enumerate(steps[place]):
            brought = one_step(share, pay, moves, values)
            if compare(brought, most) > 0:
                most = brought
                best = work
        found.append(best)
    return found
