"""Points 12 and 13, point 3 of offers, and nextwork/curves.py."""

import random
import unittest
from fractions import Fraction
from itertools import permutations

from nextwork.best import best_values
from nextwork.curves import company_curve, company_worth, curve, worth
from nextwork.numbers import numbers
from nextwork.stopping import spent
from nextwork.wrongs import NoCompany, NoFraction, NoShare, NoStanding, NoState, NoWork
from sample_companies import (
    HALF, NOT_COMPANIES, ONE, all_standings, brought, drawn_companies, drawn_company, equal_companies,
    great_companies, not_standings,
)
from samples import (
    NOT_FRACTIONS, NOT_SHARES, NOT_WORKS, SHARES, PlainCase, chain, drawn_works, exact, great_works, mean,
    not_states, pair, ring, sets_of, small_works, with_pays, work_of,
)

EXAMPLE = (((3, 1), ((1, (1, 1)),)), ((0, 1), ((1, (1, 1)),)))
LITTLE = Fraction(1, 10 ** 12)
GREAT_SHARES = [(1, 10 ** 30), (10 ** 30 - 1, 10 ** 30)]


def offers_around(starts):
    """Each of the starts, a little beside it, the middle between two, and far off."""
    starts = sorted(set(starts))
    found = [Fraction(0), Fraction(10 ** 40), Fraction(-10 ** 40)]
    for start in starts:
        found.extend([start - 1, start - LITTLE, start, start + LITTLE, start + 1])
    for low, high in zip(starts, starts[1:]):
        found.append((low + high) / 2)
    return sorted(set(found))


def starts_of(work, share):
    """The offers at which it may change whether one goes on from some state."""
    return [exact(number) / (1 - exact(share)) for number in numbers(work, share)]


def slope_at(pieces, offer):
    """The slope of the piece that holds just below the offer."""
    found = None
    for start, _, slope in pieces:
        if start is None or exact(start) < offer:
            found = exact(slope)
    return found


def by_pieces(pieces, offer):
    """What all the pieces that hold with the offer tell: one value, as pieces meet."""
    found = set()
    ends = [piece[0] for piece in pieces[1:]] + [None]
    for (start, rest, slope), end in zip(pieces, ends):
        if (start is None or exact(start) <= offer) and (end is None or offer <= exact(end)):
            found.add(exact(rest) + exact(slope) * offer)
    return found


class CurveCase(PlainCase):
    def is_a_curve(self, pieces):
        """Pieces of fractions with ascending starts and slopes, that meet; first slope 0, last rest 0 and slope 1."""
        self.assertIs(type(pieces), tuple)
        self.assertEqual({type(piece) for piece in pieces}, {tuple})
        self.assertEqual({len(piece) for piece in pieces}, {3})
        self.assertGreaterEqual(len(pieces), 2)
        self.assertIsNone(pieces[0][0])
        for start, rest, slope in pieces:
            for part in (rest, slope) if start is None else (start, rest, slope):
                self.is_a_fraction(part)
        starts = [exact(start) for start, _, _ in pieces[1:]]
        slopes = [exact(slope) for _, _, slope in pieces]
        self.assertEqual(starts, sorted(set(starts)))
        self.assertEqual(slopes, sorted(set(slopes)))
        self.assertEqual(slopes[0], 0)
        self.assertEqual(pieces[-1][1:], ((0, 1), (1, 1)))
        for start in starts:
            self.assertEqual(len(by_pieces(pieces, start)), 1)
        return starts


class Example(unittest.TestCase):
    def test_of_the_document(self):
        self.assertEqual(
            [
                curve(EXAMPLE, HALF, 0), worth(EXAMPLE, HALF, 0, (4, 1)), worth(EXAMPLE, HALF, 0, (-5, 1)),
                worth(EXAMPLE, HALF, 0, (7, 1)),
            ],
            [
                ((None, (3, 1), (0, 1)), ((0, 1), (3, 1), (1, 2)), ((6, 1), (0, 1), (1, 1))),
                (5, 1), (3, 1), (7, 1),
            ],
        )
        self.assertEqual(
            [
                company_curve((EXAMPLE, EXAMPLE), HALF, (0, 0)),
                company_worth((EXAMPLE, EXAMPLE), HALF, (0, 0), (0, 1)),
            ],
            [((None, (9, 2), (0, 1)), ((0, 1), (9, 2), (1, 4)), ((6, 1), (0, 1), (1, 1))), (9, 2)],
        )


class Worth(CurveCase):
    def told(self, work, share, offer):
        """The worths of all states."""
        found = [self.call(worth, work, share, state, pair(offer)) for state in range(len(work))]
        for one in found:
            self.is_a_fraction(one)
        return [exact(one) for one in found]

    def check(self, work, share, offer):
        """Each worth is the greatest of the offer and of one step with the worths behind it."""
        told = self.told(work, share, offer)
        for state, (pay, moves) in enumerate(work):
            step = exact(pay) + exact(share) * mean(moves, told)
            self.assertEqual(told[state], max(offer, step), (work, share, state, offer))

    def test_by_one_step(self):
        for work in drawn_works(60, (1, 2, 3, 4, 5, 6), 1) + [chain(6), ring(6)]:
            for share in SHARES[:4]:
                for offer in offers_around(starts_of(work, share))[::3]:
                    self.check(work, share, offer)

    def test_small_works(self):
        for work in small_works(2, [1, 4]) + small_works(2, [3, 3]) + small_works(3, [1, 4, -2])[::9]:
            for offer in offers_around(starts_of(work, (3, 4))):
                self.check(work, (3, 4), offer)

    def test_great_and_tiny(self):
        for work in great_works():
            for share in GREAT_SHARES:
                starts = starts_of(work, share)
                little = Fraction(1, 10 ** 700)
                for offer in [Fraction(10 ** 500), starts[0], starts[-1] + little, starts[-1] - little]:
                    self.check(work, share, offer)

    def test_over_all_sets(self):
        """Stopping at the offer outside a set: no set brings more, and some set, or stopping at once, as much."""
        for work in drawn_works(61, (1, 2, 3, 4), 1):
            share = (2, 3)
            for offer in offers_around(starts_of(work, share))[::3]:
                told = self.told(work, share, offer)
                for state in range(len(work)):
                    most = [offer]
                    for states in sets_of(len(work)):
                        pay, steps = spent(work, share, state, states)
                        # The offer counts less by a third for each step before it.
                        most.append(exact(pay) + (1 - exact(steps) / 3) * offer)
                    self.assertEqual(told[state], max(most))

    def test_far_below_and_far_above(self):
        for work in drawn_works(62, (2, 5), 1):
            everywhere = tuple(range(len(work)))
            for state in everywhere:
                pay, _ = spent(work, HALF, state, everywhere)
                self.assertEqual(self.call(worth, work, HALF, state, (-10 ** 60, 7)), pay)
                self.assertEqual(self.call(worth, work, HALF, state, (10 ** 60, 7)), (10 ** 60, 7))

    def test_stopping_by_how_many_steps_were_gone_brings_no_more(self):
        for work in drawn_works(63, (2, 4, 6), 1):
            for offer in offers_around(starts_of(work, (3, 4)))[::4]:
                told = self.told(work, (3, 4), offer)
                most = [offer] * len(work)
                for _ in range(5):
                    most = [max(offer, exact(pay) + Fraction(3, 4) * mean(moves, most)) for pay, moves in work]
                    for one, other in zip(most, told):
                        self.assertLessEqual(one, other)


class Curve(CurveCase):
    def check(self, work, share, every=1):
        """Of the offers around the starts one looks at each of so many: a worth works out the curve again."""
        for state, number in enumerate(numbers(work, share)):
            pieces = self.call(curve, work, share, state)
            starts = self.is_a_curve(pieces)
            self.assertEqual(starts[-1], exact(number) / (1 - exact(share)))
            for offer in offers_around(starts_of(work, share))[state % every::every]:
                self.assertEqual(by_pieces(pieces, offer), {exact(worth(work, share, state, pair(offer)))})

    def test_drawn_works(self):
        for work in drawn_works(64, (1, 2, 3, 4, 5, 6), 1):
            for share in SHARES:
                self.check(work, share, 6)

    def test_small_works(self):
        for work in small_works(2, [1, 4]) + small_works(3, [1, 4, -2])[::5] + small_works(3, [2, 2, 5])[::5]:
            self.check(work, (3, 4))

    def test_works_of_one_move_each(self):
        for many in range(1, 7):
            for work in (chain(many), ring(many), with_pays(chain(many), range(many, 0, -1))):
                for share in (HALF, (99, 100)):
                    self.check(work, share, 2)

    def test_great_and_tiny(self):
        for work in great_works():
            for share in GREAT_SHARES:
                self.check(work, share, 9)

    def test_works_of_one_state(self):
        for pay in (2, 0, Fraction(-3, 7)):
            for share in SHARES:
                end = pair(pay / (1 - exact(share)))
                work = with_pays(ONE, [pay])
                self.assertEqual(self.call(curve, work, share, 0), ((None, end, (0, 1)), (end, (0, 1), (1, 1))))

    def test_equal_numbers_make_one_piece(self):
        # All numbers are 2: one stops for good just where the offer is 4 or more.
        for work in (with_pays(ring(4), [2] * 4), with_pays(work_of([[0, 1, 2], [0, 2], [1]]), [2] * 3)):
            for state in range(len(work)):
                self.assertEqual(curve(work, HALF, state), ((None, (4, 1), (0, 1)), ((4, 1), (0, 1), (1, 1))))

    def test_states_that_are_not_reached_do_not_count(self):
        work = (((3, 1), ((0, (1, 1)),)), ((1, 1), ((1, (1, 1)),)), ((2, 1), ((0, (1, 1)),)))
        self.assertEqual(curve(work, HALF, 0), ((None, (6, 1), (0, 1)), ((6, 1), (0, 1), (1, 1))))
        self.assertEqual(curve(work, HALF, 1), ((None, (2, 1), (0, 1)), ((2, 1), (0, 1), (1, 1))))
        # Behind the state 2 one goes on without end if at all.
        self.assertEqual(curve(work, HALF, 2), ((None, (5, 1), (0, 1)), ((5, 1), (0, 1), (1, 1))))

    def test_written_out(self):
        # With the chance 1/2 each to 6 for ever and to 1 for ever; the own pay is 0.
        work = (
            ((0, 1), ((1, (1, 2)), (2, (1, 2)))), ((6, 1), ((1, (1, 1)),)), ((1, 1), ((2, (1, 1)),)),
        )
        self.assertEqual(
            curve(work, HALF, 0), ((None, (7, 2), (0, 1)), ((2, 1), (3, 1), (1, 4)), ((4, 1), (0, 1), (1, 1))),
        )
        self.assertEqual(curve(work, HALF, 1), ((None, (12, 1), (0, 1)), ((12, 1), (0, 1), (1, 1))))

    def test_the_same_again(self):
        first = curve(EXAMPLE, HALF, 0)
        curve(EXAMPLE, (1, 9), 1)
        worth(EXAMPLE, HALF, 0, (1, 1))
        self.assertEqual(curve(EXAMPLE, HALF, 0), first)


class CompanyWorth(CurveCase):
    def check(self, company, share, offer):
        """Each worth is the greatest of the offer and of one step with any work, with the worths behind it."""
        told = {}
        for standing in all_standings(company):
            one = self.call(company_worth, company, share, standing, pair(offer))
            self.is_a_fraction(one)
            told[standing] = exact(one)
        for standing in told:
            steps = [brought(company, share, standing, work, told) for work in range(len(company))]
            self.assertEqual(told[standing], max([offer] + steps), (company, share, standing, offer))

    def around(self, company, share):
        return offers_around([start for work in company for start in starts_of(work, share)])

    def test_by_one_step(self):
        draw = random.Random(65)
        for company in drawn_companies(66) + equal_companies():
            share = draw.choice(SHARES[:4])
            offers = self.around(company, share)
            for offer in draw.sample(offers, min(8, len(offers))):
                self.check(company, share, offer)

    def test_at_all_offers_of_small_companies(self):
        draw = random.Random(67)
        for sizes in ((1, 1), (2, 1), (2, 2), (1, 2, 1)):
            for _ in range(3):
                company = drawn_company(draw, sizes)
                for offer in self.around(company, (4, 5)):
                    self.check(company, (4, 5), offer)

    def test_great_and_tiny(self):
        for company in great_companies():
            for share in GREAT_SHARES:
                starts = starts_of(company[-1], share)
                for offer in (starts[0], starts[-1] - Fraction(1, 10 ** 700)):
                    self.check(company, share, offer)

    def test_beside_a_work_of_one_state(self):
        """The worth is the best value beside a work of one state whose pay, for good, is the offer."""
        for company in drawn_companies(68) + equal_companies():
            if len(company) < 3:
                for share in (HALF, (9, 10)):
                    for offer in self.around(company, share)[::5]:
                        still = with_pays(ONE, [offer * (1 - exact(share))])
                        told = tuple(
                            self.call(company_worth, company, share, standing, pair(offer))
                            for standing in all_standings(company)
                        )
                        self.assertEqual(told, best_values(company + (still,), share))

    def test_far_below_and_far_above(self):
        for company in drawn_companies(69):
            for standing, best in zip(all_standings(company), best_values(company, (2, 3))):
                self.assertEqual(self.call(company_worth, company, (2, 3), standing, (-10 ** 60, 7)), best)
                self.assertEqual(self.call(company_worth, company, (2, 3), standing, (10 ** 60, 7)), (10 ** 60, 7))


class CompanyCurve(CurveCase):
    def check(self, company, share, standing, best):
        pieces = self.call(company_curve, company, share, standing)
        starts = self.is_a_curve(pieces)
        curves = [curve(work, share, state) for work, state in zip(company, standing)]
        for offer in offers_around(starts + [exact(start) for one in curves for start, _, _ in one if start]):
            self.assertEqual(by_pieces(pieces, offer), {exact(company_worth(company, share, standing, pair(offer)))})
            product = 1
            for one in curves:
                product *= slope_at(one, offer)
            self.assertEqual(slope_at(pieces, offer), product)
        self.assertEqual(pieces[0][1], best)
        return pieces

    def check_all(self, company, share):
        for standing, best in zip(all_standings(company), best_values(company, share)):
            self.check(company, share, standing, best)

    def test_drawn_companies(self):
        draw = random.Random(70)
        for company in drawn_companies(71):
            self.check_all(company, draw.choice(SHARES))

    def test_equal_works_and_numbers(self):
        for company in equal_companies():
            self.check_all(company, (3, 4))

    def test_great_and_tiny(self):
        for company in great_companies():
            for share in GREAT_SHARES:
                standing = tuple(len(work) - 1 for work in company)
                self.check(company, share, standing, best_values(company, share)[-1])

    def test_the_order_of_the_works_does_not_matter(self):
        for company in drawn_companies(72):
            for standing in all_standings(company)[::2]:
                pieces = self.call(company_curve, company, HALF, standing)
                for order in permutations(range(len(company))):
                    other = tuple(company[k] for k in order)
                    self.assertEqual(company_curve(other, HALF, tuple(standing[k] for k in order)), pieces)

    def test_with_one_work_it_is_the_curve_of_the_work(self):
        for work in drawn_works(73, (1, 2, 3, 4, 5, 6), 1):
            for state in range(len(work)):
                for share in SHARES:
                    self.assertEqual(
                        self.call(company_curve, (work,), share, (state,)), curve(work, share, state),
                    )

    def test_beside_a_work_that_is_always_better(self):
        """Then one never comes to the others, and the curve is that of the better one."""
        better = with_pays(ONE, [100])
        for company in drawn_companies(74):
            if len(company) < 3:
                for standing in all_standings(company):
                    told = self.call(company_curve, company + (better,), HALF, standing + (0,))
                    self.assertEqual(told, ((None, (200, 1), (0, 1)), ((200, 1), (0, 1), (1, 1))))

    def test_written_out(self):
        # 4 once and then nothing, and 2 for ever: with offers below 4 one goes on with 2 at the end.
        work = (((4, 1), ((1, (1, 1)),)), ((0, 1), ((1, (1, 1)),)))
        self.assertEqual(
            company_curve((work, ONE), HALF, (0, 0)),
            ((None, (6, 1), (0, 1)), ((4, 1), (4, 1), (1, 2)), ((8, 1), (0, 1), (1, 1))),
        )
        self.assertEqual(
            company_curve((ONE, work), HALF, (0, 1)), ((None, (4, 1), (0, 1)), ((4, 1), (0, 1), (1, 1))),
        )


class Wrong(PlainCase):
    def test_works(self):
        for work in (EXAMPLE, ONE, chain(6)):
            wrong = [
                (NoWork, NOT_WORKS), (NoShare, NOT_SHARES), (NoState, not_states(work)), (NoFraction, NOT_FRACTIONS),
            ]
            self.refuses_in_order(curve, (work, HALF, 0), wrong[:3])
            self.refuses_in_order(worth, (work, HALF, 0, (1, 1)), wrong)

    def test_companies(self):
        for company in ((EXAMPLE, EXAMPLE), (ONE,), (chain(2), chain(3), chain(2))):
            wrong = [
                (NoCompany, NOT_COMPANIES), (NoShare, NOT_SHARES), (NoStanding, not_standings(company)),
                (NoFraction, NOT_FRACTIONS),
            ]
            standing = (0,) * len(company)
            self.refuses_in_order(company_curve, (company, HALF, standing), wrong[:3])
            self.refuses_in_order(company_worth, (company, HALF, standing, (1, 1)), wrong)

    def test_where_the_answer_would_not_hang_on_it(self):
        still = with_pays(ring(2), [2, 2])
        self.refuses(NoState, curve, still, HALF, True)
        self.refuses(NoState, worth, still, HALF, 2, (9, 1))
        self.refuses(NoShare, worth, still, (1, 1), 0, (10 ** 9, 1))
        self.refuses(NoFraction, worth, still, HALF, 0, (2 * 10 ** 9, 2))
        self.refuses(NoStanding, company_curve, (still, ONE), HALF, (0, False))
        self.refuses(NoStanding, company_worth, (still, ONE), HALF, (2, 0), (10 ** 9, 1))
        self.refuses(NoShare, company_worth, (ONE, ONE), (1, 1), (0, 0), (10 ** 9, 1))
        self.refuses(NoFraction, company_worth, (ONE, ONE), HALF, (0, 0), (-4, 2))

    def test_a_refusal_leaves_nothing_behind(self):
        self.refuses(NoFraction, worth, EXAMPLE, HALF, 0, [4, 1])
        self.refuses(NoStanding, company_curve, (EXAMPLE, EXAMPLE), HALF, [0, 0])
        self.assertEqual(worth(EXAMPLE, HALF, 0, (4, 1)), (5, 1))


class Quick(PlainCase):
    def test_six_states_and_twelve_standings(self):
        full = (work_of([range(3)] * 3), work_of([range(2)] * 2), work_of([range(2)] * 2))
        wide = (work_of([range(6)] * 6), work_of([range(2)] * 2))
        for company in [full, wide] + great_companies()[-6:]:
            for share in SHARES:
                work, standing = company[0], (0,) * len(company)
                offer = pair(starts_of(work, share)[0])
                self.is_quick(curve, work, share, 1)
                self.is_quick(worth, work, share, 1, offer)
                self.is_quick(company_curve, company, share, standing)
                self.is_quick(company_worth, company, share, standing, offer)


if __name__ == "__main__":
    unittest.main()
