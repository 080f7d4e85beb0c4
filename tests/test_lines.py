"""Drawn lines of all 19 calls against a model that knows no corners where the document doesn't ask for them.

The model looks for money for nothing where fairness is asked, and for some of each that pay no more (no less)
than a promise where from and to are asked.
"""

import unittest
from fractions import Fraction

from dayahead.promises import answers
from tests.helper import (GREATEST, Market, Numbers, ask, begin, call, corners, drop, fair, flat, free, look, may, of, one,
                          pays, price, promise, put, rate, state, thing, times, whole, would)


def told_as(part):
    part = Fraction(part)
    return [part.numerator, part.denominator]


class Model:
    def __init__(self):
        self.begun = False
        self.n = self.p = self.b = 0
        self.things = []
        self.spans = {}

    def market(self, things):
        return Market(self.n, self.p, self.b, [(cost, list(worths)) for cost, worths in things])

    def is_fair(self, things):
        return self.market(things).money_for_nothing() is None

    def span(self, promised):
        key = (self.n, self.p, self.b, tuple(self.things), tuple(promised))
        if key not in self.spans:
            market = self.market(self.things)
            self.spans[key] = None
            if market.money_for_nothing() is None:
                self.spans[key] = (max(market.costs_that_cover(promised, -1)),
                                   min(market.costs_that_cover(promised, 1)))
        return self.spans[key]

    def priced(self, promised):
        found = self.span(promised)
        if found is None:
            return [-16]
        return [int(found[0] == found[1])] + told_as(found[0]) + told_as(found[1])

    def fits_row(self, row):
        return len(row) == self.n and all(number <= 1000 for number in row)

    def answer(self, made):
        if made[0] == 0:
            return self.begin(*made[1:])
        if not self.begun:
            return [-11]
        name = ("begin thing drop price fair corners promise may one call put whole of free pays would look rate state"
                ).split()[made[0]]
        if name in ("thing", "promise", "one", "may", "free", "pays"):
            plain = {"thing": 1, "may": 2}.get(name, 0)
            return getattr(self, name)(*made[1:1 + plain], made[2 + plain:])
        return getattr(self, name)(*made[1:])

    def begin(self, n, p, b):
        if n not in range(1, 5) or p not in range(1, 1001) or b not in range(1, 1001):
            return [-22]
        self.begun, self.n, self.p, self.b, self.things = True, n, p, b, []
        return [0]

    def thing(self, p, worths):
        if p > 1000 or not self.fits_row(worths):
            return [-22]
        if len(self.things) == 2:
            return [-28]
        self.things = self.things + [(p, tuple(worths))]
        return [len(self.things) - 1]

    def drop(self, t):
        if t >= len(self.things):
            return [-2]
        self.things = self.things[:t] + self.things[t + 1:]
        return [len(self.things)]

    def refused(self, t, number):
        if t >= len(self.things):
            return [-2]
        return [-22] if number > 1000 else None

    def at_price(self, t, p):
        return self.things[:t] + [(p, self.things[t][1])] + self.things[t + 1:]

    def price(self, t, p):
        refused = self.refused(t, p)
        if refused:
            return refused
        was = self.things[t][0]
        self.things = self.at_price(t, p)
        return [was]

    def look(self, t):
        return [self.things[t][0], *self.things[t][1]] if t < len(self.things) else [-2]

    def rate(self):
        return [0] + told_as(Fraction(self.p, self.b))

    def state(self):
        return [self.n, len(self.things), self.p, self.b]

    def fair(self):
        return [int(self.is_fair(self.things))]

    def would(self, t, p):
        return self.refused(t, p) or [int(self.is_fair(self.at_price(t, p)))]

    def corners(self):
        found = self.market(self.things).expected_corners()
        return [len(found)] + [number for prices in found for part in prices for number in told_as(part)]

    def whole(self):
        if not self.is_fair(self.things):
            return [-16]
        # With just one corner each that may come can be made, and with each of these everything.
        market = self.market(self.things)
        return [int(all(market.can_make([int(k == c) for k in range(self.n)]) for c in range(self.n)))]

    def made_of(self, some):
        if len(some) != 2 + 2 * len(self.things) or max(some) > 1000:
            return None
        pieces = [some[k] - some[k + 1] for k in range(0, len(some), 2)]
        market = self.market(self.things)
        return times(pieces, market.costs), [times(pieces, row) for row in zip(*market.pays)]

    def free(self, some):
        found = self.made_of(some)
        if found is None:
            return [-22]
        cost, paid = found
        return [int(cost <= 0 and min(paid) >= 0 and (cost < 0 or max(paid) > 0)), cost]

    def pays(self, some):
        found = self.made_of(some)
        return [-22] if found is None else [self.n, found[0]] + found[1]

    def promise(self, promised):
        return self.priced(promised) if self.fits_row(promised) else [-22]

    def one(self, promised):
        return self.promise(promised)[:1]

    def may(self, x, y, promised):
        if not self.fits_row(promised) or y not in range(1, 1001) or x > 1000000:
            return [-22]
        found = self.span(promised)
        if found is None:
            return [-16]
        return [int(found[0] < Fraction(x, y) < found[1] or found[0] == Fraction(x, y) == found[1])]

    def call(self, t, k):
        return self.refused(t, k) or self.priced([max(worth - k, 0) for worth in self.things[t][1]])

    def put(self, t, k):
        return self.refused(t, k) or self.priced([max(k - worth, 0) for worth in self.things[t][1]])

    def of(self, c):
        return self.priced([int(number == c) for number in range(self.n)]) if c < self.n else [-2]


class Drawn:
    """Draws a line: mostly calls that fit how many may come and how many things there are, some that don't."""

    def __init__(self, seed, bound):
        self.numbers = Numbers(seed)
        self.bound = bound

    def pick(self, choices):
        return choices[self.numbers.below(len(choices))]

    def size(self):
        if self.numbers.below(25) == 0:
            return self.pick([0, 999, 1000, 1001, GREATEST])
        return self.numbers.below(self.bound)

    def row(self, many):
        if self.numbers.below(12) == 0:
            many = self.numbers.below(7)
        return [self.size() for number in range(many)]

    def some(self, things):
        many = self.numbers.below(9) if self.numbers.below(8) == 0 else 2 + 2 * things
        return [self.size() for number in range(many)]

    def begin(self):
        if self.numbers.below(4) == 0:
            return begin(self.numbers.below(6), self.size(), self.size())
        return begin(1 + self.numbers.below(4), 1 + self.numbers.below(self.bound), 1 + self.numbers.below(self.bound))

    def cost(self, model, worths):
        """A price; more often than not one that may well be fair, so that not all is refused."""
        if self.numbers.below(3) == 0 or not model.begun or not worths:
            return self.size()
        return min(1000, model.p * sum(worths) // (model.b * len(worths)) + self.numbers.below(2))

    def call(self, model):
        n, things = model.n, len(model.things)
        t = self.numbers.below(things) if things and self.numbers.below(8) else self.pick([things, things + 1, GREATEST])
        kind = self.numbers.below(45)
        if kind < 1:
            return self.begin()
        if kind < 5:
            worths = self.row(n)
            return thing(self.cost(model, worths), worths)
        if kind < 7:
            return drop(t)
        if kind < 12:
            return price(t, self.cost(model, model.things[t][1] if t < things else []))
        made = [fair(), corners(), promise(self.row(n)), may(self.size(), self.size(), self.row(n)), one(self.row(n)),
                call(t, self.size()), put(t, self.size()), whole(), of(self.numbers.below(n + 2)),
                free(self.some(things)), pays(self.some(things)), look(t), rate(), state(),
                would(t, self.cost(model, model.things[t][1] if t < things else []))]
        return self.pick(made)

    def line(self, many):
        """The calls of a line, and what the model answers."""
        model = Model()
        calls = [self.call(model) for number in range(self.numbers.below(4))] + [self.begin()]
        expected = [model.answer(made) for made in calls]
        while len(calls) < many:
            calls.append(self.call(model))
            expected.append(model.answer(calls[-1]))
        return calls, expected


class LinesTest(unittest.TestCase):
    @classmethod
    def setUpClass(cls):
        cls.lines = []
        for seed, bound in enumerate((2, 3, 3, 4, 4, 6, 6, 10, 40, 1001)):
            drawn = Drawn(seed, bound)
            cls.lines += [drawn.line(80) for again in range(16)]

    def test_as_the_model_answers(self):
        for calls, expected in self.lines:
            for made, told, due in zip(calls, ask(*calls), expected):
                self.assertEqual(told, due, made)

    def test_each_call_was_drawn_answered_and_refused(self):
        seen = {(made[0], min(due[0], 0)) for calls, expected in self.lines for made, due in zip(calls, expected)}
        due = {0: [-22], 1: [-22, -28], 2: [-2], 3: [-2, -22], 4: [], 5: [], 6: [-22, -16], 7: [-22, -16],
               8: [-22, -16], 9: [-2, -22, -16], 10: [-2, -22, -16], 11: [-16], 12: [-2, -16], 13: [-22], 14: [-22],
               15: [-2, -22], 16: [-2], 17: [], 18: []}
        for number, refusals in due.items():
            told = {first for made, first in seen if made == number}
            self.assertEqual(told, {0, *refusals} if number == 0 else {0, -11, *refusals})

    def test_f_what_is_refused_changes_nothing(self):
        for calls, expected in self.lines:
            kept = [made for made, due in zip(calls, expected) if due[0] >= 0]
            self.assertEqual(ask(*kept), [due for due in expected if due[0] >= 0])

    def test_what_only_asks_changes_nothing(self):
        for calls, expected in self.lines:
            changing = [k for k in range(len(calls)) if calls[k][0] <= 3]
            self.assertEqual(ask(*[calls[k] for k in changing]), [expected[k] for k in changing])
            # The same question twice has the same answer.
            asking = [k for k in range(len(calls)) if calls[k][0] > 3]
            twice = [made for made in calls for again in range(1 if made[0] <= 3 else 2)]
            due = [told for made, told in zip(calls, expected) for again in range(1 if made[0] <= 3 else 2)]
            self.assertEqual(ask(*twice), due)
            self.assertEqual(len(twice), len(calls) + len(asking))

    def test_the_list_stays_as_it_was_and_asked_twice_answers_the_same(self):
        for calls, expected in self.lines:
            line = flat(calls)
            copy = list(line)
            told = answers(line)
            self.assertEqual(line, copy)
            self.assertEqual(answers(line), told)
            self.assertEqual(line, copy)


if __name__ == "__main__":
    unittest.main()
