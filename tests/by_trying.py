"""The promises worked out by trying every order, to hold the program's answers against."""

from itertools import permutations


def keeps(order, things):
    places = [place for place, thing in enumerate(order) if things >> thing & 1]
    return not places or places[-1] - places[0] + 1 == len(places)


def orders_keeping(n, told):
    return [order for order in permutations(range(n)) if all(keeps(order, things) for things in told)]


class Trying:
    """The object of the document. For each set it keeps, as bits, the orders that keep it."""

    def __init__(self):
        self.n = 0
        self.told = []

    def to_start(self, n):
        if not 1 <= n <= 64:
            return [-22]
        self.n = n
        self.told = []
        self.every = list(permutations(range(n)))
        self.known = {}
        return [0]

    def bits(self, things):
        if things not in self.known:
            self.known[things] = sum(1 << k for k, order in enumerate(self.every) if keeps(order, things))
        return self.known[things]

    def possible(self, sets):
        bits = (1 << len(self.every)) - 1
        for things in sets:
            bits &= self.bits(things)
        return bits != 0

    def to_say(self, things):
        if things >= 1 << self.n:
            return [-22]
        if len(self.told) == 64:
            return [-28]
        if not self.possible(self.told + [things]):
            return [-61]
        self.told.append(things)
        return [len(self.told) - 1]

    def to_why(self, things):
        if things >= 1 << self.n:
            return [-22]
        if self.possible(self.told + [things]):
            return [-17]
        left = list(range(len(self.told)))
        for number in range(len(self.told)):
            others = [other for other in left if other != number]
            if not self.possible([self.told[other] for other in others] + [things]):
                left = others
        return [len(left), sum(1 << number for number in left)]


def tried_answers(calls):
    trying = Trying()
    given = []
    for call, number in zip(calls[::2], calls[1::2]):
        answer = [trying.to_start, trying.to_say, trying.to_why][call](number)
        given += [len(answer)] + answer
    return given
