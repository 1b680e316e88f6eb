"""Chains of places: what is brought from each place on, later pay counted less.

All is counted in whole numbers over one bottom and brought to lowest terms
only at the end: great values would make each single step on fractions slow.
"""

from nextwork.quotients import common_bottom, fraction


def one_step(share, pay, moves, values):
    """The pay plus the share times the mean of the values behind the moves (place, chance)."""
    chances = common_bottom([chance for _, chance in moves])
    common = common_bottom([pay] + [values[place] for place, _ in moves])
    behind = 0
    for place, (part, parts) in moves:
        top, bottom = values[place]
        behind += part * (chances // parts) * top * (common // bottom)
    top, bottom = share
    brought = pay[0] * (common // pay[1]) * chances * bottom + top * behind
    return fraction(brought, common * chances * bottom)


def sums(share, pays, moves):
    """The list of the mean sums of all pays from each place on.

    Each place has its pay and a row of moves (place, chance). Where the
    chances of a row add up to less than 1, the rest is the chance to stop.
    """
    common = common_bottom(pays)
    equations = []
    for place, (top, bottom) in enumerate(pays):
        equations.append(_equation(share, place, top * (common // bottom), moves[place], len(pays)))
    return [
        fraction(row[-1], row[place] * common)
        for place, row in enumerate(_each_alone(equations))
    ]


def _equation(share, place, pay, moves, many):
    """The whole factors of the sums of all places, and behind them what they add up to."""
    top, bottom = share
    common = common_bottom([chance for _, chance in moves])
    row = [0] * many
    row[place] = bottom * common
    for target, chance in moves:
        row[target] -= top * chance[0] * (common // chance[1])
    row.append(bottom * common * pay)
    return row


def _each_alone(equations):
    """The equations brought to a form in which each has only the sum of its own place."""
    rows = equations
    before = 1
    for place in range(len(equations)):
        # It is not 0: each own factor is greater than all others of its row
        # together, as the share is less than 1.
        chosen = rows[place]
        rows = [
            chosen if at == place else _without(row, chosen, place, before)
            for at, row in enumerate(rows)
        ]
        before = chosen[place]
    return rows


def _without(row, chosen, place, before):
    """The row less so much of the chosen one that its factor at the place is 0."""
    own = chosen[place]
    factor = row[place]
    # The one before divides all of these (Bareiss), so the numbers stay small.
    return [(own * here - factor * there) // before for here, there in zip(row, chosen)]
