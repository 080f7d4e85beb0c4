"""What holds, a to e, each shown by a witness that is checked by the document's own words.

Fair: prices that fit, all more than nothing. Not fair: some of each that are money for nothing.
From and to: corners that make the promise worth these; and some of each that pay no more (no less) than
the promise, whatever comes, and cost just that much: so no prices that fit make it worth less (more).
"""

import unittest
from fractions import Fraction
from itertools import product
from math import lcm

from tests.helper import (Market, Numbers, call, corners, fair, free, may, of, one, pays, promise, put, rank, rate,
                          times, whole, would)


def fraction(told, at):
    return Fraction(told[at], told[at + 1])


def bought_and_sold(pieces):
    some = []
    for number in pieces:
        some += [max(number, 0), max(-number, 0)]
    return some


def in_whole_pieces(market, some):
    """Some of each that a market keeps, as whole numbers of pieces of all that it has."""
    below = lcm(*[part.denominator for part in some])
    pieces = [0] * len(market.costs)
    for number, part in zip(market.kept, some):
        pieces[number] = int(part * below)
    return pieces


def markets():
    numbers = Numbers(7)
    for bound in (2, 3, 4, 7, 1001):
        for n in (1, 2, 3, 4):
            for many in (0, 1, 2):
                for again in range(30):
                    p = 1 + numbers.below(bound - 1)
                    b = 1 + numbers.below(bound - 1)
                    yield Market(n, p, b, [(numbers.below(bound), [numbers.below(bound) for state in range(n)])
                                           for number in range(many)])
    # These fit by how they are made, at least with prices of 0.
    for bound in (2, 3, 5):
        for n in (2, 3, 4):
            for again in range(80):
                shares = [numbers.below(bound) for state in range(n)]
                if sum(shares) > 0:
                    b = 1 + numbers.below(12)
                    rows = [[b * numbers.below(5) for state in range(n)] for number in range(2)]
                    yield Market(n, sum(shares), b, [(times(row, shares) // b, row) for row in rows])


class HoldsTest(unittest.TestCase):
    @classmethod
    def setUpClass(cls):
        cls.markets = list(markets())

    def promises_of(self, market, numbers):
        for bound in (2, 4, 1001):
            yield [numbers.below(bound) for state in range(market.n)]
        yield [min(1000, 2 * worth + 3) for worth in market.pays[-1]]

    def test_a_fair_exactly_when_there_is_no_money_for_nothing(self):
        seen = {0: 0, 1: 0}
        for market in self.markets:
            told = market.ask(fair())[0]
            self.assertEqual(len(told), 1)
            seen[told[0]] += 1
            if told == [1]:
                found = market.corners()
                middle = [sum(prices) / len(found) for prices in zip(*found)]
                self.assertTrue(market.fits(middle) and min(middle) > 0)
                self.assertIsNone(market.money_for_nothing())
            else:
                self.assertIsNotNone(market.money_for_nothing(), market.calls)
        self.assertGreater(min(seen.values()), 300)

    def test_a_what_is_money_for_nothing_is_told_as_such(self):
        seen = 0
        for market in self.markets:
            found = market.money_for_nothing()
            if found is not None:
                pieces = in_whole_pieces(market, found)
                if max(abs(number) for number in pieces) <= 1000:
                    seen += 1
                    told = market.ask(free(bought_and_sold(pieces)))[0]
                    self.assertEqual(told, [1, times(pieces, market.costs)])
        self.assertGreater(seen, 300)

    def test_a_where_it_is_fair_none_are_money_for_nothing(self):
        seen = {0: 0, 1: 0}
        for market in self.markets[::5]:
            bound = 6 if len(market.costs) < 3 else 3
            tried = [bought_and_sold(pieces) for pieces in product(range(-bound, bound + 1), repeat=len(market.costs))]
            asked = market.ask(fair(), *[free(some) for some in tried])
            if asked[0] == [1]:
                self.assertEqual({told[0] for told in asked[1:]}, {0})
            seen[asked[0][0]] += 1
        self.assertGreater(min(seen.values()), 60)

    def test_free_and_pays_are_as_some_of_each_are_told(self):
        numbers = Numbers(19)
        seen = {0: 0, 1: 0}
        for market in self.markets:
            for bound in (2, 4, 1001):
                some = [numbers.below(bound) for number in range(2 * len(market.costs))]
                pieces = [some[k] - some[k + 1] for k in range(0, len(some), 2)]
                cost = times(pieces, market.costs)
                paid = [times(pieces, row) for row in zip(*market.pays)]
                nothing = cost <= 0 and min(paid) >= 0 and (cost < 0 or max(paid) > 0)
                seen[int(nothing)] += 1
                self.assertEqual(market.ask(free(some), pays(some)), [[int(nothing), cost], [market.n, cost] + paid])
        self.assertGreater(min(seen.values()), 200)

    def test_corners_fit_and_are_in_order(self):
        for market in self.markets:
            found = market.corners()
            keys = [(sum(price != 0 for price in prices), [price == 0 for price in prices]) for prices in found]
            self.assertEqual(keys, sorted(keys))
            for prices in found:
                self.assertTrue(market.fits(prices))
                chosen = [state for state in range(market.n) if prices[state] != 0]
                columns = [[row[state] for row in market.pays] for state in chosen]
                # Columns of which none is made of the others: no other prices are 0 wherever these are.
                self.assertEqual(rank(columns), len(chosen))

    def test_every_corner_is_told(self):
        for market in self.markets:
            self.assertEqual(market.corners(), market.expected_corners())

    def test_fractions_are_in_lowest_terms(self):
        for market in self.markets:
            told = market.ask(corners())[0]
            for k in range(1, len(told), 2):
                part = Fraction(told[k], told[k + 1])
                self.assertEqual((part.numerator, part.denominator), (told[k], told[k + 1]))

    def test_b_from_and_to_are_met_and_not_passed(self):
        numbers = Numbers(11)
        for market in self.markets:
            if market.ask(fair()) == [[1]]:
                found = market.corners()
                for promised in self.promises_of(market, numbers):
                    told = market.ask(promise(promised))[0]
                    least, greatest = Fraction(told[1], told[2]), Fraction(told[3], told[4])
                    self.assertEqual([least.numerator, least.denominator], told[1:3])
                    self.assertEqual([greatest.numerator, greatest.denominator], told[3:])
                    worths = [times(prices, promised) for prices in found]
                    self.assertTrue(least in worths and greatest in worths)
                    self.assertEqual(min(market.costs_that_cover(promised, 1)), greatest)
                    self.assertEqual(max(market.costs_that_cover(promised, -1)), least)

    def test_c_what_pays_as_much_costs_as_much_or_more(self):
        numbers = Numbers(23)
        seen = {"more": 0, "just as much": 0}
        for market in self.markets:
            if market.ask(fair()) == [[1]]:
                for bound in (3, 9, 101):
                    some = [numbers.below(bound) for number in range(2 * len(market.costs))]
                    told = market.ask(pays(some))[0]
                    for less in (1, 1 + numbers.below(5)):
                        promised = [min(1000, max(0, paid - numbers.below(less))) for paid in told[2:]]
                        if all(paid >= pay for paid, pay in zip(told[2:], promised)):
                            to = fraction(market.ask(promise(promised))[0], 3)
                            self.assertGreaterEqual(told[1], to)
                            seen["just as much" if told[1] == to else "more"] += 1
        self.assertGreater(min(seen.values()), 300)

    def test_d_what_is_made_costs_as_what_it_is_made_of(self):
        numbers = Numbers(29)
        seen = 0
        for market in self.markets:
            if market.ask(fair()) == [[1]]:
                for bound in (2, 3, 6):
                    some = [numbers.below(bound) for number in range(2 * len(market.costs))]
                    told = market.ask(pays(some))[0]
                    if 0 <= min(told[2:]) and max(told[2:]) <= 1000:
                        seen += 1
                        self.assertEqual(market.ask(promise(told[2:]))[0], [1, told[1], 1, told[1], 1])
        self.assertGreater(seen, 300)

    def test_d_it_is_whole_exactly_when_all_can_be_made(self):
        seen = {0: 0, 1: 0}
        for market in self.markets:
            told = market.ask(whole())[0]
            if market.ask(fair()) == [[0]]:
                self.assertEqual(told, [-16])
            else:
                self.assertEqual(told, [1 if rank(market.pays) == market.n else 0])
                seen[told[0]] += 1
        self.assertGreater(min(seen.values()), 100)

    def test_d_one_price_exactly_when_it_can_be_made(self):
        numbers = Numbers(13)
        seen = {0: 0, 1: 0}
        for market in self.markets:
            if market.ask(fair()) == [[1]]:
                for promised in self.promises_of(market, numbers):
                    told = market.ask(one(promised), promise(promised))
                    expected = 1 if market.can_make(promised) else 0
                    seen[expected] += 1
                    self.assertEqual(told[0], [expected])
                    self.assertEqual(told[1][0], expected)
        self.assertGreater(min(seen.values()), 300)

    def test_e_a_right_to_buy_less_a_right_to_sell(self):
        numbers = Numbers(31)
        seen = {0: 0, 1: 0}
        for market in self.markets:
            if market.ask(fair()) == [[1]]:
                lent = fraction(market.ask(rate())[0], 1)
                for t, worths in enumerate(market.pays[1:]):
                    between = [min(worths) + numbers.below(1 + max(worths) - min(worths)) for again in range(4)]
                    for k in sorted({0, min(worths), max(worths), numbers.below(1001), 1000, *between}):
                        bought, sold = market.ask(call(t, k), put(t, k))
                        self.assertEqual(bought[0], sold[0])
                        seen[bought[0]] += 1
                        # By each corner they differ by just as much, so from and to do too.
                        for at in (1, 3):
                            self.assertEqual(fraction(bought, at) - fraction(sold, at), market.costs[1 + t] - k * lent)
        self.assertGreater(min(seen.values()), 300)

    def test_may_is_as_from_and_to_tell(self):
        numbers = Numbers(17)
        for market in self.markets:
            if market.ask(fair()) == [[1]]:
                for promised in self.promises_of(market, numbers):
                    told = market.ask(promise(promised))[0]
                    least, greatest = Fraction(told[1], told[2]), Fraction(told[3], told[4])
                    middle = (least + greatest) / 2
                    for asked in (least, greatest, middle, least + Fraction(1, 97), greatest - Fraction(1, 97)):
                        x, y = asked.numerator, asked.denominator
                        if 0 <= x <= 1000000 and y <= 1000:
                            inside = least < asked < greatest or least == asked == greatest
                            self.assertEqual(market.ask(may(x, y, promised)), [[1 if inside else 0]])

    def test_a_right_to_buy_is_as_its_promise(self):
        for market in self.markets:
            for t, worths in enumerate(market.pays[1:]):
                for k in sorted({0, 1, min(worths), max(worths), sum(worths) // len(worths), 1000}):
                    told = market.ask(call(t, k), promise([max(worth - k, 0) for worth in worths]))
                    self.assertEqual(told[0], told[1])

    def test_a_right_to_sell_is_as_its_promise(self):
        for market in self.markets:
            for t, worths in enumerate(market.pays[1:]):
                for k in sorted({0, 1, min(worths), max(worths), sum(worths) // len(worths), 1000}):
                    told = market.ask(put(t, k), promise([max(k - worth, 0) for worth in worths]))
                    self.assertEqual(told[0], told[1])

    def test_of_is_as_its_promise(self):
        for market in self.markets:
            for c in range(market.n):
                told = market.ask(of(c), promise([1 if state == c else 0 for state in range(market.n)]))
                self.assertEqual(told[0], told[1])

    def test_it_would_be_fair_if_it_is_at_that_price(self):
        numbers = Numbers(37)
        seen = {0: 0, 1: 0}
        for market in self.markets[::3]:
            for t in range(len(market.costs) - 1):
                for p in (market.costs[1 + t], numbers.below(4), numbers.below(1 + max(market.pays[1 + t]))):
                    things = list(zip(market.costs, market.pays))[1:]
                    things[t] = (p, things[t][1])
                    priced = Market(market.n, market.costs[0], market.pays[0][0], things)
                    expected = 1 if priced.money_for_nothing() is None else 0
                    self.assertEqual(market.ask(would(t, p)), [[expected]])
                    seen[expected] += 1
        self.assertGreater(min(seen.values()), 300)

    def test_refused_where_it_is_not_fair(self):
        for market in self.markets:
            ones = [1] * market.n
            refused = market.ask(fair()) == [[0]]
            made = [promise(ones), one(ones), may(1, 1, ones), whole(), of(0), of(market.n - 1)]
            made += [right(t, 3) for t in range(len(market.costs) - 1) for right in (call, put)]
            for told in market.ask(*made):
                self.assertEqual(told == [-16], refused)


if __name__ == "__main__":
    unittest.main()
