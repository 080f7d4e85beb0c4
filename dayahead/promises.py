"""The calls on one object as a list of whole numbers, and their answers as another."""

from dayahead.day import Day

NOT_BEGUN = -11

BEGIN = 0
THING = 1
DROP = 2
PRICE = 3
FAIR = 4
CORNERS = 5
PROMISE = 6
MAY = 7
ONE = 8
CALL = 9

# By a call's number: how many whole numbers it has, and whether a row comes behind them.
PLAIN_NUMBERS = (3, 1, 1, 2, 0, 0, 0, 2, 0, 2)
HAS_ROW = (False, True, False, False, False, False, True, True, True, False)


class NotBuilt(ValueError):
    """A call whose number is told in the interface, but which isn't written yet."""


def answered(day, number, plain, row):
    """What the call of that number answers, with its whole numbers and its row."""
    if number == BEGIN:
        return day.begin(plain[0], plain[1], plain[2])
    if not day.begun:
        return [NOT_BEGUN]
    if number == THING:
        return day.thing(plain[0], row)
    if number == DROP:
        return day.drop(plain[0])
    if number == PRICE:
        return day.price(plain[0], plain[1])
    if number == FAIR:
        return day.fair()
    if number == CORNERS:
        return day.corners()
    if number == PROMISE:
        return day.promise(row)
    if number == MAY:
        return day.may(plain[0], plain[1], row)
    if number == ONE:
        return day.one(row)
    return day.call(plain[0], plain[1])


def answers(calls):
    """For each call, in order, how many numbers are answered, then these."""
    day = Day()
    told = []
    at = 0
    while at < len(calls):
        number = calls[at]
        at += 1
        if number > CALL:
            raise NotBuilt("calls 10 to 18 are not built yet")
        plain = calls[at:at + PLAIN_NUMBERS[number]]
        at += len(plain)
        row = []
        if HAS_ROW[number]:
            row = calls[at + 1:at + 1 + calls[at]]
            at += 1 + len(row)
        answer = answered(day, number, plain, row)
        told.append(len(answer))
        told.extend(answer)
    return told
