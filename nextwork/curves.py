"""Offers to stop for good: what a state or a standing is worth with each of them."""

from nextwork.companies import need_company, need_standing
from nextwork.numbers import groups
from nextwork.quotients import compare, greatest, minus, need_fraction, over, plus, times
from nextwork.stopping import going_on
from nextwork.works import need_share, need_state, need_work


def curve(work, share, state):
    """The curve of the state: the tuple of its pieces (start, rest, slope)."""
    need_work(work)
    need_share(share)
    need_state(work, state)
    left = minus((1, 1), share)
    rows = []
    going = []
    for number, states in groups(work, share):
        # With lesser offers, down to that of the next number, one goes on from these too.
        going = going + states
        rows.append((over(number, left), _slope(work, share, state, going)))
    return _put_together(rows)


def _slope(work, share, state, going):
    """How much the offer counts, where one goes on from the states and stops at all others."""
    if state not in going:
        return (1, 1)
    # The offer counts less by 1 less the share for each step before it.
    steps = going_on(work, share, [(1, 1)] * len(work), going)[state]
    return minus((1, 1), times(minus((1, 1), share), steps))


def _put_together(rows):
    """The curve with the slopes: rows of tuples (start, slope below it), the greatest start first."""
    # Above all starts the worth is the offer. From there down, each piece
    # meets the one above it at its start, which tells its rest.
    rest = (0, 1)
    slope = (1, 1)
    pieces = []
    for start, below in rows:
        if below != slope:
            pieces.append((start, rest, slope))
            rest = plus(rest, times(start, minus(slope, below)))
            slope = below
    pieces.append((None, rest, slope))
    return tuple(reversed(pieces))


def worth(work, share, state, offer):
    """The worth of the state with the offer."""
    need_work(work)
    need_share(share)
    need_state(work, state)
    need_fraction(offer)
    return _worth_by(curve(work, share, state), offer)


def _worth_by(pieces, offer):
    """What the curve tells for the offer."""
    _, rest, slope = _piece_below(pieces, offer)
    return plus(rest, times(slope, offer))


def _piece_below(pieces, offer):
    """The piece that holds just below the offer, and so with the offer, too."""
    found = pieces[0]
    for piece in pieces[1:]:
        if compare(piece[0], offer) < 0:
            found = piece
    return found


def company_curve(company, share, standing):
    """The curve of the standing of the company."""
    need_company(company)
    need_share(share)
    need_standing(company, standing)
    curves = [curve(work, share, state) for work, state in zip(company, standing)]
    starts = [piece[0] for pieces in curves for piece in pieces[1:]]
    rows = []
    while starts:
        start = greatest(starts)
        starts = [other for other in starts if other != start]
        rows.append((start, _slopes_below(curves, start)))
    return _put_together(rows)


def _slopes_below(curves, start):
    """The product of the slopes that the curves have just below the start."""
    product = (1, 1)
    for pieces in curves:
        product = times(product, _piece_below(pieces, start)[2])
    return product


def company_worth(company, share, standing, offer):
    """The worth of the standing of the company with the offer."""
    need_company(company)
    need_share(share)
    need_standing(company, standing)
    need_fraction(offer)
    return _worth_by(company_curve(company, share, standing), offer)
