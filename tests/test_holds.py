"""What holds, a, b, c (as far as it shows b) and d, each shown by a witness that is checked by the document's own words.

Fair: prices that fit, all more than nothing. Not fair: some of each that are money for nothing.
From and to: corners that make the promise worth these; and some of each that pay no more (no less) than
the promise, whatever comes, and cost just that much: so no prices that fit make it worth less (more).
"""

import unittest
from fractions import Fraction
from itertools import combinations

from tests.helper import ask, begin, call, corners, fair, may, one, promise, thing


class Numbers:
    """Always the same numbers, which look as if they had no order."""

    def __init__(self, seed):
        self.seed = seed

    def below(self, bound):
        self.seed = (self.seed * 6364136223846793005 + 1442695040888963407) % 2 ** 64
        return (self.seed >> 33) % bound


def times(some, numbers):
    return sum(a * b for a, b in zip(some, numbers))


def solutions(rows, sums):
    """The one solution of rows that are as many as their numbers, in a list; an empty one if it isn't one."""
    size = len(rows)
    rows = [[Fraction(number) for number in row] + [Fraction(end)] for row, end in zip(rows, sums)]
    for column in range(size):
        found = [number for number in range(column, size) if rows[number][column] != 0]
        if not found:
            return []
        rows[column], rows[found[0]] = rows[found[0]], rows[column]
        rows[column] = [number / rows[column][column] for number in rows[column]]
        for number in range(size):
            if number != column:
                part = rows[number][column]
                rows[number] = [a - part * b for a, b in zip(rows[number], rows[column])]
    return [[row[size] for row in rows]]


def rank(rows):
    rows = [[Fraction(number) for number in row] for row in rows]
    done = 0
    for column in range(len(rows[0])):
        found = [number for number in range(done, len(rows)) if rows[number][column] != 0]
        if found:
            rows[done], rows[found[0]] = rows[found[0]], rows[done]
            for number in range(done + 1, len(rows)):
                part = rows[number][column] / rows[done][column]
                rows[number] = [a - part * b for a, b in zip(rows[number], rows[done])]
            done += 1
    return done


class Market:
    def __init__(self, n, p, b, things):
        self.n = n
        self.calls = [begin(n, p, b)] + [thing(cost, worths) for cost, worths in things]
        self.costs = [p] + [cost for cost, worths in things]
        self.pays = [[b] * n] + [worths for cost, worths in things]
        # What can be made of the ones before adds nothing to what can be made: the witnesses do without.
        self.free = []
        for number in range(len(self.costs)):
            kept = self.free + [number]
            if rank([self.pays[k] + [self.costs[k]] for k in kept]) == len(kept):
                self.free = kept

    def ask(self, *made):
        return ask(*self.calls, *made)[len(self.calls):]

    def corners(self):
        told = self.ask(corners())[0]
        numbers = [Fraction(told[k], told[k + 1]) for k in range(1, len(told), 2)]
        return [numbers[k:k + self.n] for k in range(0, len(numbers), self.n)]

    def fits(self, prices):
        return min(prices) >= 0 and all(times(pays, prices) == cost for pays, cost in zip(self.pays, self.costs))

    def state_rows(self):
        return [[self.pays[k][state] for k in self.free] for state in range(self.n)]

    def cost_row(self):
        return [self.costs[k] for k in self.free]

    def is_money_for_nothing(self, some):
        cost = times(some, self.cost_row())
        paid = [times(some, row) for row in self.state_rows()]
        return cost <= 0 and min(paid) >= 0 and (cost < 0 or max(paid) > 0)

    def money_for_nothing(self):
        """Some of each that are money for nothing, if there are any: on an edge of all that lose nothing."""
        rows = self.state_rows() + [self.cost_row()]
        for tight in combinations(rows, len(self.free) - 1):
            for row in rows:
                for size in (1, -1):
                    for some in solutions(list(tight) + [row], [0] * len(tight) + [size]):
                        if self.is_money_for_nothing(some):
                            return some
        return None

    def costs_that_cover(self, pays, sign):
        """What some of each cost that pay as much as the promise or more (sign 1), or less (sign -1)."""
        rows = self.state_rows()
        found = []
        for tight in combinations(range(self.n), len(self.free)):
            for some in solutions([rows[k] for k in tight], [pays[k] for k in tight]):
                if all(sign * (times(some, row) - pay) >= 0 for row, pay in zip(rows, pays)):
                    found.append(times(some, self.cost_row()))
        return found

    def can_make(self, pays):
        return rank(self.pays) == rank(self.pays + [pays])


def markets():
    numbers = Numbers(7)
    for bound in (2, 3, 4, 7, 1001):
        for n in (1, 2, 3, 4):
            for many in (0, 1, 2):
                for again in range(30):
                    p = 1 + numbers.below(bound - 1)
                    b = 1 + numbers.below(bound - 1)
                    yield Market(n, p, b, [(numbers.below(bound), [numbers.below(bound) for state in range(n)])
                                           for number in range(many)])
    # These fit by how they are made, at least with prices of 0.
    for bound in (2, 3, 5):
        for n in (2, 3, 4):
            for again in range(80):
                shares = [numbers.below(bound) for state in range(n)]
                if sum(shares) > 0:
                    b = 1 + numbers.below(12)
                    rows = [[b * numbers.below(5) for state in range(n)] for number in range(2)]
                    yield Market(n, sum(shares), b, [(times(row, shares) // b, row) for row in rows])


class HoldsTest(unittest.TestCase):
    @classmethod
    def setUpClass(cls):
        cls.markets = list(markets())

    def promises_of(self, market, numbers):
        for bound in (2, 4, 1001):
            yield [numbers.below(bound) for state in range(market.n)]
        yield [min(1000, 2 * worth + 3) for worth in market.pays[-1]]

    def test_a_fair_exactly_when_there_is_no_money_for_nothing(self):
        seen = {0: 0, 1: 0}
        for market in self.markets:
            told = market.ask(fair())[0]
            self.assertEqual(len(told), 1)
            seen[told[0]] += 1
            if told == [1]:
                found = market.corners()
                middle = [sum(prices) / len(found) for prices in zip(*found)]
                self.assertTrue(market.fits(middle) and min(middle) > 0)
                self.assertIsNone(market.money_for_nothing())
            else:
                self.assertIsNotNone(market.money_for_nothing(), market.calls)
        self.assertGreater(min(seen.values()), 300)

    def test_corners_fit_and_are_in_order(self):
        for market in self.markets:
            found = market.corners()
            keys = [(sum(price != 0 for price in prices), [price == 0 for price in prices]) for prices in found]
            self.assertEqual(keys, sorted(keys))
            for prices in found:
                self.assertTrue(market.fits(prices))
                chosen = [state for state in range(market.n) if prices[state] != 0]
                columns = [[pays[state] for pays in market.pays] for state in chosen]
                # Columns of which none is made of the others: no other prices are 0 wherever these are.
                self.assertEqual(rank(columns), len(chosen))

    def test_every_corner_is_told(self):
        for market in self.markets:
            expected = []
            rows = [pays + [cost] for pays, cost in zip(market.pays, market.costs)]
            for size in range(1, market.n + 1):
                for chosen in combinations(range(market.n), size):
                    for some in combinations(rows, size):
                        for found in solutions([[row[k] for k in chosen] for row in some], [row[-1] for row in some]):
                            prices = [Fraction(0)] * market.n
                            for state, price in zip(chosen, found):
                                prices[state] = price
                            if min(found) > 0 and market.fits(prices) and prices not in expected:
                                expected.append(prices)
            self.assertEqual(market.corners(), expected)

    def test_fractions_are_in_lowest_terms(self):
        for market in self.markets:
            told = market.ask(corners())[0]
            for k in range(1, len(told), 2):
                part = Fraction(told[k], told[k + 1])
                self.assertEqual((part.numerator, part.denominator), (told[k], told[k + 1]))

    def test_b_from_and_to_are_met_and_not_passed(self):
        numbers = Numbers(11)
        for market in self.markets:
            if market.ask(fair()) == [[1]]:
                found = market.corners()
                for pays in self.promises_of(market, numbers):
                    told = market.ask(promise(pays))[0]
                    least, greatest = Fraction(told[1], told[2]), Fraction(told[3], told[4])
                    self.assertEqual([least.numerator, least.denominator], told[1:3])
                    self.assertEqual([greatest.numerator, greatest.denominator], told[3:])
                    worths = [times(prices, pays) for prices in found]
                    self.assertTrue(least in worths and greatest in worths)
                    self.assertEqual(min(market.costs_that_cover(pays, 1)), greatest)
                    self.assertEqual(max(market.costs_that_cover(pays, -1)), least)

    def test_d_one_price_exactly_when_it_can_be_made(self):
        numbers = Numbers(13)
        seen = {0: 0, 1: 0}
        for market in self.markets:
            if market.ask(fair()) == [[1]]:
                for pays in self.promises_of(market, numbers):
                    told = market.ask(one(pays), promise(pays))
                    expected = 1 if market.can_make(pays) else 0
                    seen[expected] += 1
                    self.assertEqual(told[0], [expected])
                    self.assertEqual(told[1][0], expected)
        self.assertGreater(min(seen.values()), 300)

    def test_may_is_as_from_and_to_tell(self):
        numbers = Numbers(17)
        for market in self.markets:
            if market.ask(fair()) == [[1]]:
                for pays in self.promises_of(market, numbers):
                    told = market.ask(promise(pays))[0]
                    least, greatest = Fraction(told[1], told[2]), Fraction(told[3], told[4])
                    middle = (least + greatest) / 2
                    for asked in (least, greatest, middle, least + Fraction(1, 97), greatest - Fraction(1, 97)):
                        x, y = asked.numerator, asked.denominator
                        if 0 <= x <= 1000000 and y <= 1000:
                            inside = least < asked < greatest or least == asked == greatest
                            self.assertEqual(market.ask(may(x, y, pays)), [[1 if inside else 0]])

    def test_a_right_to_buy_is_as_its_promise(self):
        for market in self.markets:
            for t, worths in enumerate(market.pays[1:]):
                for k in sorted({0, 1, min(worths), max(worths), sum(worths) // len(worths), 1000}):
                    told = market.ask(call(t, k), promise([max(worth - k, 0) for worth in worths]))
                    self.assertEqual(told[0], told[1])

    def test_refused_where_it_is_not_fair(self):
        for market in self.markets:
            pays = [1] * market.n
            refused = market.ask(fair()) == [[0]]
            for told in market.ask(promise(pays), one(pays), may(1, 1, pays)):
                self.assertEqual(told == [-16], refused)


if __name__ == "__main__":
    unittest.main()
