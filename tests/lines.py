"""Lines of calls as the tests write them."""

from togethersets.orders import answers


def start(n):
    return [0, n]


def say(*things):
    return [1, bits(things)]


def why(*things):
    return [2, bits(things)]


def many():
    return [3]


def order():
    return [4]


def between(a, b, c):
    return [5, a, b, c]


def bits(things):
    return sum(1 << thing for thing in things)


def asked(*calls):
    """The answers to these calls, a list for each."""
    given = answers([number for call in calls for number in call])
    split = []
    at = 0
    while at < len(given):
        split.append(given[at + 1:at + 1 + given[at]])
        at += 1 + given[at]
    return split


def last(*calls):
    return asked(*calls)[-1]
