"""The object on which calls are made. Each call answers a list: the number, then what is told behind it."""

from dayahead.corners import are_fair, find_corners, least_and_greatest
from dayahead.pieces import is_money_for_nothing, together
from dayahead.ratio import is_less, ratio

NONE_SUCH = -2
NOT_FAIR = -16
OUT_OF_RANGE = -22
TOO_MANY = -28

MOST_THAT_MAY_COME = 4
MOST_THINGS = 2
MOST = 1000
MOST_X = 1000000


class Thing:
    def __init__(self, cost, worths):
        self.cost = cost
        self.worths = worths


class Day:
    def __init__(self):
        self.begun = False
        self.width = 0
        self.lent = 0
        self.back = 0
        self.things = []

    def begin(self, n, p, b):
        if not (1 <= n <= MOST_THAT_MAY_COME and 1 <= p <= MOST and 1 <= b <= MOST):
            return [OUT_OF_RANGE]
        self.begun = True
        self.width = n
        self.lent = p
        self.back = b
        self.things = []
        return [0]

    def thing(self, p, worths):
        if p > MOST or not self.is_row(worths):
            return [OUT_OF_RANGE]
        if len(self.things) == MOST_THINGS:
            return [TOO_MANY]
        self.things.append(Thing(p, list(worths)))
        return [len(self.things) - 1]

    def drop(self, t):
        if not self.has_thing(t):
            return [NONE_SUCH]
        self.things.pop(t)
        return [len(self.things)]

    def price(self, t, p):
        refused = self.refusal(t, p)
        if refused != 0:
            return [refused]
        thing = self.things[t]
        was = thing.cost
        thing.cost = p
        return [was]

    def look(self, t):
        if not self.has_thing(t):
            return [NONE_SUCH]
        thing = self.things[t]
        return [thing.cost] + thing.worths

    def rate(self):
        told = [0]
        told.extend(ratio(self.lent, self.back))
        return told

    def state(self):
        return [self.width, len(self.things), self.lent, self.back]

    def fair(self):
        return [1 if are_fair(self.all_corners(), self.width) else 0]

    def would(self, t, p):
        refused = self.refusal(t, p)
        if refused != 0:
            return [refused]
        rows = self.rows()
        # Money lent is the first row, so a thing's is one behind its number.
        rows[t + 1] = self.things[t].worths + [p]
        return [1 if are_fair(find_corners(rows, self.width), self.width) else 0]

    def corners(self):
        found = self.all_corners()
        told = [len(found)]
        for corner in found:
            for price in corner:
                told.extend(price)
        return told

    def whole(self):
        corners = self.all_corners()
        if not are_fair(corners, self.width):
            return [NOT_FAIR]
        return [1 if len(corners) == 1 else 0]

    def free(self, some):
        if not self.is_some(some):
            return [OUT_OF_RANGE]
        made = together(self.rows(), some)
        return [1 if is_money_for_nothing(made) else 0, made[-1]]

    def pays(self, some):
        if not self.is_some(some):
            return [OUT_OF_RANGE]
        made = together(self.rows(), some)
        return [self.width, made[-1]] + made[:-1]

    def promise(self, pays):
        if not self.is_row(pays):
            return [OUT_OF_RANGE]
        return self.priced(pays)

    def may(self, x, y, pays):
        if not self.is_row(pays) or not 1 <= y <= MOST or x > MOST_X:
            return [OUT_OF_RANGE]
        span = self.span(pays)
        if span is None:
            return [NOT_FAIR]
        asked = ratio(x, y)
        if span[0] == span[1]:
            return [1 if asked == span[0] else 0]
        return [1 if is_less(span[0], asked) and is_less(asked, span[1]) else 0]

    def one(self, pays):
        return self.promise(pays)[:1]

    def call(self, t, k):
        refused = self.refusal(t, k)
        if refused != 0:
            return [refused]
        return self.priced([max(worth - k, 0) for worth in self.things[t].worths])

    def put(self, t, k):
        refused = self.refusal(t, k)
        if refused != 0:
            return [refused]
        return self.priced([max(k - worth, 0) for worth in self.things[t].worths])

    def of(self, c):
        if c >= self.width:
            return [NONE_SUCH]
        return self.priced([1 if number == c else 0 for number in range(self.width)])

    def has_thing(self, t):
        return t < len(self.things)

    def refusal(self, t, number):
        """What refuses a thing and a price or a sum that goes with it; 0 if nothing does."""
        if not self.has_thing(t):
            return NONE_SUCH
        if number > MOST:
            return OUT_OF_RANGE
        return 0

    def is_row(self, numbers):
        """Whether there's a number for each that may come, none too great."""
        return len(numbers) == self.width and all([number <= MOST for number in numbers])

    def is_some(self, numbers):
        """Whether there are two numbers for money lent and for each thing, none too great."""
        return len(numbers) == 2 * (1 + len(self.things)) and all([number <= MOST for number in numbers])

    def rows(self):
        """What money lent and each thing pay under each that may come, then their price."""
        rows = [[self.back] * self.width + [self.lent]]
        for thing in self.things:
            rows.append(thing.worths + [thing.cost])
        return rows

    def all_corners(self):
        return find_corners(self.rows(), self.width)

    def span(self, pays):
        """From and to as a pair of fractions, or None where it isn't fair."""
        corners = self.all_corners()
        if not are_fair(corners, self.width):
            return None
        return least_and_greatest(corners, pays)

    def priced(self, pays):
        span = self.span(pays)
        if span is None:
            return [NOT_FAIR]
        told = [1 if span[0] == span[1] else 0]
        told.extend(span[0])
        told.extend(span[1])
        return told
