"""The calls on one object as a list of whole numbers, and their answers as another."""

from dayahead.day import Day

NOT_BEGUN = -11

BEGIN = 0
THING = 1
DROP = 2
PRICE = 3
FAIR = 4
CORNERS = 5
PROMISE = 6
MAY = 7
ONE = 8
CALL = 9
PUT = 10
WHOLE = 11
OF = 12
FREE = 13
PAYS = 14
WOULD = 15
LOOK = 16
RATE = 17
STATE = 18

# By a call's number: how many whole numbers it has.
PLAIN_NUMBERS = (3, 1, 1, 2, 0, 0, 0, 2, 0, 2, 2, 0, 1, 0, 0, 2, 1, 0, 0)


def has_row(number):
    """Whether a row comes behind the whole numbers of that call."""
    return number in (THING, PROMISE, MAY, ONE, FREE, PAYS)


def about_things(day, number, plain, row):
    """The answer of a call that keeps what there is, or tells it; None if it's another call."""
    if number == THING:
        return day.thing(plain[0], row)
    if number == DROP:
        return day.drop(plain[0])
    if number == PRICE:
        return day.price(plain[0], plain[1])
    if number == LOOK:
        return day.look(plain[0])
    if number == RATE:
        return day.rate()
    if number == STATE:
        return day.state()
    return None


def about_fairness(day, number, plain, row):
    """The answer of a call that asks for fairness, corners or some of each; None if it's another call."""
    if number == FAIR:
        return day.fair()
    if number == WOULD:
        return day.would(plain[0], plain[1])
    if number == CORNERS:
        return day.corners()
    if number == WHOLE:
        return day.whole()
    if number == FREE:
        return day.free(row)
    if number == PAYS:
        return day.pays(row)
    return None


def about_promises(day, number, plain, row):
    """The answer of a call that asks what a promise may cost; None if it's another call."""
    if number == PROMISE:
        return day.promise(row)
    if number == MAY:
        return day.may(plain[0], plain[1], row)
    if number == ONE:
        return day.one(row)
    if number == CALL:
        return day.call(plain[0], plain[1])
    if number == PUT:
        return day.put(plain[0], plain[1])
    if number == OF:
        return day.of(plain[0])
    return None


def answered(day, number, plain, row):
    """What the call of that number answers, with its whole numbers and its row."""
    if number == BEGIN:
        return day.begin(plain[0], plain[1], plain[2])
    if not day.begun:
        return [NOT_BEGUN]
    answer = about_things(day, number, plain, row)
    if answer is None:
        answer = about_fairness(day, number, plain, row)
    if answer is None:
        answer = about_promises(day, number, plain, row)
    return answer


def answers(calls):
    """For each call, in order, how many numbers are answered, then these."""
    day = Day()
    told = []
    at = 0
    while at < len(calls):
        number = calls[at]
        at += 1
        plain = calls[at:at + PLAIN_NUMBERS[number]]
        at += len(plain)
        row = []
        if has_row(number):
            row = calls[at + 1:at + 1 + calls[at]]
            at += 1 + len(row)
        answer = answered(day, number, plain, row)
        told.append(len(answer))
        told.extend(answer)
    return told
