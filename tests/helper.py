"""Calls written by name, and their answers one list a call."""

from dayahead.promises import answers

GREATEST = 4294967295


def begin(n, p=1, b=1):
    return [0, n, p, b]


def thing(p, worths):
    return [1, p, len(worths)] + list(worths)


def drop(t):
    return [2, t]


def price(t, p):
    return [3, t, p]


def fair():
    return [4]


def corners():
    return [5]


def promise(pays):
    return [6, len(pays)] + list(pays)


def may(x, y, pays):
    return [7, x, y, len(pays)] + list(pays)


def one(pays):
    return [8, len(pays)] + list(pays)


def call(t, k):
    return [9, t, k]


def flat(calls):
    return [number for made in calls for number in made]


def ask(*calls):
    """The answer of each call, as a list of its own."""
    told = answers(flat(calls))
    split = []
    at = 0
    while at < len(told):
        split.append(told[at + 1:at + 1 + told[at]])
        if len(split[-1]) != told[at]:
            raise AssertionError("fewer numbers than counted: %r" % (told,))
        at += 1 + told[at]
    if len(split) != len(calls):
        raise AssertionError("%d calls, but %d answers" % (len(calls), len(split)))
    return split


def last(*calls):
    return ask(*calls)[-1]


def probes(n):
    """Calls that show all that an object of n that may come holds: things, prices, worths."""
    shown = [fair(), corners()]
    for state in range(n):
        shown.append(promise([1 if number == state else 0 for number in range(n)]))
    for t in (0, 1):
        shown += [call(t, 0), call(t, 3), price(t, 1), corners()]
    shown += [drop(0), corners(), drop(0), corners(), thing(1, [1] * n)]
    return shown


def changes_nothing(before, refused, n):
    """Whether what's behind a refused call is answered as if it hadn't been made."""
    asked = ask(*before, refused, *probes(n))
    told = asked[len(before)]
    if len(told) != 1 or told[0] >= 0:
        raise AssertionError("not refused: %r" % (told,))
    return asked[:len(before)] + asked[len(before) + 1:] == ask(*before, *probes(n))
