"""The object on which calls are made. Each call answers a list: the number, then what is told behind it."""

from dayahead.corners import are_fair, find_corners, least_and_greatest
from dayahead.ratio import is_less, ratio

NONE_SUCH = -2
NOT_FAIR = -16
OUT_OF_RANGE = -22
TOO_MANY = -28

MOST_THAT_MAY_COME = 4
MOST_THINGS = 2
MOST = 1000
MOST_X = 1000000


class Thing:
    def __init__(self, cost, worths):
        self.cost = cost
        self.worths = worths


class Day:
    def __init__(self):
        self.begun = False
        self.width = 0
        self.lent = 0
        self.back = 0
        self.things = []

    def begin(self, n, p, b):
        if not (1 <= n <= MOST_THAT_MAY_COME and 1 <= p <= MOST and 1 <= b <= MOST):
            return [OUT_OF_RANGE]
        self.begun = True
        self.width = n
        self.lent = p
        self.back = b
        self.things = []
        return [0]

    def thing(self, p, worths):
        if p > MOST or not self.is_row(worths):
            return [OUT_OF_RANGE]
        if len(self.things) == MOST_THINGS:
            return [TOO_MANY]
        self.things.append(Thing(p, list(worths)))
        return [len(self.things) - 1]

    def drop(self, t):
        if not self.has_thing(t):
            return [NONE_SUCH]
        self.things.pop(t)
        return [len(self.things)]

    def price(self, t, p):
        if not self.has_thing(t):
            return [NONE_SUCH]
        if p > MOST:
            return [OUT_OF_RANGE]
        thing = self.things[t]
        was = thing.cost
        thing.cost = p
        return [was]

    def fair(self):
        return [1 if are_fair(self.all_corners(), self.width) else 0]

    def corners(self):
        found = self.all_corners()
        told = [len(found)]
        for corner in found:
            for price in corner:
                told.extend(price)
        return told

    def promise(self, pays):
        if not self.is_row(pays):
            return [OUT_OF_RANGE]
        return self.priced(pays)

    def may(self, x, y, pays):
        if not self.is_row(pays) or not 1 <= y <= MOST or x > MOST_X:
            return [OUT_OF_RANGE]
        span = self.span(pays)
        if span is None:
            return [NOT_FAIR]
        asked = ratio(x, y)
        if span[0] == span[1]:
            return [1 if asked == span[0] else 0]
        return [1 if is_less(span[0], asked) and is_less(asked, span[1]) else 0]

    def one(self, pays):
        return self.promise(pays)[:1]

    def call(self, t, k):
        if not self.has_thing(t):
            return [NONE_SUCH]
        if k > MOST:
            return [OUT_OF_RANGE]
        return self.priced([max(worth - k, 0) for worth in self.things[t].worths])

    def has_thing(self, t):
        return t < len(self.things)

    def is_row(self, numbers):
        """Whether there's a number for each that may come, none too great."""
        return len(numbers) == self.width and all([number <= MOST for number in numbers])

    def all_corners(self):
        rows = [[self.back] * self.width + [self.lent]]
        for thing in self.things:
            rows.append(thing.worths + [thing.cost])
        return find_corners(rows, self.width)

    def span(self, pays):
        """From and to as a pair of fractions, or None where it isn't fair."""
        corners = self.all_corners()
        if not are_fair(corners, self.width):
            return None
        return least_and_greatest(corners, pays)

    def priced(self, pays):
        span = self.span(pays)
        if span is None:
            return [NOT_FAIR]
        told = [1 if span[0] == span[1] else 0]
        told.extend(span[0])
        told.extend(span[1])
        return told
