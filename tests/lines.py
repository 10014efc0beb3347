"""How the tests write calls down, and how they read what is answered."""

from roadsharers.roads import answers

LOWEST = -2147483648
HIGHEST = 2147483647
ALL_THINGS = 65535


def begin():
    return [0]


def thing(r, a, b):
    return [1, r, a, b]


def user(*sets):
    return [2, len(sets), *sets]


def choose(i, k):
    return [3, i, k]


def load(r):
    return [4, r]


def cost(i):
    return [5, i]


def try_set(i, k):
    return [6, i, k]


def joined(calls):
    return [number for call in calls for number in call]


def told(*calls):
    """The one number that is answered to each of these calls, in order."""
    given_back = answers(joined(calls))
    counts = given_back[0::2]
    if counts != [1] * len(calls):
        raise AssertionError(f"not one number for each call: {given_back}")
    return given_back[1::2]


def last_told(*calls):
    return told(*calls)[-1]


def things(*numbers):
    """The sixteen bits of a set that holds these things."""
    return sum(1 << r for r in numbers)
