"""Calls written by name, and their answers one list a call; and the witnesses of what holds."""

from fractions import Fraction
from itertools import combinations

from dayahead.promises import answers

GREATEST = 4294967295


def begin(n, p=1, b=1):
    return [0, n, p, b]


def thing(p, worths):
    return [1, p, len(worths)] + list(worths)


def drop(t):
    return [2, t]


def price(t, p):
    return [3, t, p]


def fair():
    return [4]


def corners():
    return [5]


def promise(pays):
    return [6, len(pays)] + list(pays)


def may(x, y, pays):
    return [7, x, y, len(pays)] + list(pays)


def one(pays):
    return [8, len(pays)] + list(pays)


def call(t, k):
    return [9, t, k]


def put(t, k):
    return [10, t, k]


def whole():
    return [11]


def of(c):
    return [12, c]


def free(some):
    return [13, len(some)] + list(some)


def pays(some):
    return [14, len(some)] + list(some)


def would(t, p):
    return [15, t, p]


def look(t):
    return [16, t]


def rate():
    return [17]


def state():
    return [18]


def flat(calls):
    return [number for made in calls for number in made]


def ask(*calls):
    """The answer of each call, as a list of its own."""
    told = answers(flat(calls))
    split = []
    at = 0
    while at < len(told):
        split.append(told[at + 1:at + 1 + told[at]])
        if len(split[-1]) != told[at]:
            raise AssertionError("fewer numbers than counted: %r" % (told,))
        at += 1 + told[at]
    if len(split) != len(calls):
        raise AssertionError("%d calls, but %d answers" % (len(calls), len(split)))
    return split


def last(*calls):
    return ask(*calls)[-1]


def probes(n):
    """Calls that show all that an object of n that may come holds, and that the calls see it as it's held."""
    shown = [state(), rate(), look(0), look(1), fair(), corners(), whole()]
    shown += [of(number) for number in range(n)]
    shown += [pays([3, 1] + [2, 1] * many) for many in (0, 1, 2)]
    for t in (0, 1):
        shown += [call(t, 0), call(t, 3), put(t, 3), price(t, 1), corners()]
    shown += [drop(0), corners(), drop(0), corners(), thing(1, [1] * n), state()]
    return shown


def leaves_as_it_was(before, made, n):
    """Whether what's behind a call is answered as if it hadn't been made."""
    asked = ask(*before, made, *probes(n))
    return asked[:len(before)] + asked[len(before) + 1:] == ask(*before, *probes(n))


def changes_nothing(before, refused, n):
    """Whether a call is refused, and what's behind it is answered as if it hadn't been made."""
    told = last(*before, refused)
    if len(told) != 1 or told[0] >= 0:
        raise AssertionError("not refused: %r" % (told,))
    return leaves_as_it_was(before, refused, n)


class Numbers:
    """Always the same numbers, which look as if they had no order."""

    def __init__(self, seed):
        self.seed = seed

    def below(self, bound):
        self.seed = (self.seed * 6364136223846793005 + 1442695040888963407) % 2 ** 64
        return (self.seed >> 33) % bound


def times(some, numbers):
    return sum(a * b for a, b in zip(some, numbers))


def solutions(rows, sums):
    """The one solution of rows that are as many as their numbers, in a list; an empty one if it isn't one."""
    size = len(rows)
    rows = [[Fraction(number) for number in row] + [Fraction(end)] for row, end in zip(rows, sums)]
    for column in range(size):
        found = [number for number in range(column, size) if rows[number][column] != 0]
        if not found:
            return []
        rows[column], rows[found[0]] = rows[found[0]], rows[column]
        rows[column] = [number / rows[column][column] for number in rows[column]]
        for number in range(size):
            if number != column:
                part = rows[number][column]
                rows[number] = [a - part * b for a, b in zip(rows[number], rows[column])]
    return [[row[size] for row in rows]]


def rank(rows):
    rows = [[Fraction(number) for number in row] for row in rows]
    done = 0
    for column in range(len(rows[0])):
        found = [number for number in range(done, len(rows)) if rows[number][column] != 0]
        if found:
            rows[done], rows[found[0]] = rows[found[0]], rows[done]
            for number in range(done + 1, len(rows)):
                part = rows[number][column] / rows[done][column]
                rows[number] = [a - part * b for a, b in zip(rows[number], rows[done])]
            done += 1
    return done


class Market:
    def __init__(self, n, p, b, things):
        self.n = n
        self.calls = [begin(n, p, b)] + [thing(cost, worths) for cost, worths in things]
        self.costs = [p] + [cost for cost, worths in things]
        self.pays = [[b] * n] + [worths for cost, worths in things]
        # What can be made of the ones before adds nothing to what can be made: the witnesses do without.
        self.kept = []
        for number in range(len(self.costs)):
            more = self.kept + [number]
            if rank([self.pays[k] + [self.costs[k]] for k in more]) == len(more):
                self.kept = more

    def ask(self, *made):
        return ask(*self.calls, *made)[len(self.calls):]

    def corners(self):
        told = self.ask(corners())[0]
        numbers = [Fraction(told[k], told[k + 1]) for k in range(1, len(told), 2)]
        return [numbers[k:k + self.n] for k in range(0, len(numbers), self.n)]

    def fits(self, prices):
        return min(prices) >= 0 and all(times(pays, prices) == cost for pays, cost in zip(self.pays, self.costs))

    def expected_corners(self):
        """All corners in their order: on each choice of what may come, what some of the prices leave open."""
        expected = []
        rows = [row + [cost] for row, cost in zip(self.pays, self.costs)]
        for size in range(1, self.n + 1):
            for chosen in combinations(range(self.n), size):
                for some in combinations(rows, size):
                    for found in solutions([[row[k] for k in chosen] for row in some], [row[-1] for row in some]):
                        prices = [Fraction(0)] * self.n
                        for number, part in zip(chosen, found):
                            prices[number] = part
                        if min(found) > 0 and self.fits(prices) and prices not in expected:
                            expected.append(prices)
        return expected

    def state_rows(self):
        return [[self.pays[k][state] for k in self.kept] for state in range(self.n)]

    def cost_row(self):
        return [self.costs[k] for k in self.kept]

    def is_money_for_nothing(self, some):
        cost = times(some, self.cost_row())
        paid = [times(some, row) for row in self.state_rows()]
        return cost <= 0 and min(paid) >= 0 and (cost < 0 or max(paid) > 0)

    def money_for_nothing(self):
        """Some of each that are money for nothing, if there are any: on an edge of all that lose nothing."""
        rows = self.state_rows() + [self.cost_row()]
        for tight in combinations(rows, len(self.kept) - 1):
            for row in rows:
                for size in (1, -1):
                    for some in solutions(list(tight) + [row], [0] * len(tight) + [size]):
                        if self.is_money_for_nothing(some):
                            return some
        return None

    def costs_that_cover(self, pays, sign):
        """What some of each cost that pay as much as the promise or more (sign 1), or less (sign -1)."""
        rows = self.state_rows()
        found = []
        for tight in combinations(range(self.n), len(self.kept)):
            for some in solutions([rows[k] for k in tight], [pays[k] for k in tight]):
                if all(sign * (times(some, row) - pay) >= 0 for row, pay in zip(rows, pays)):
                    found.append(times(some, self.cost_row()))
        return found

    def can_make(self, pays):
        return rank(self.pays) == rank(self.pays + [pays])
