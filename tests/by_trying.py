"""The promises worked out by trying every order, to hold the program's answers against."""

from itertools import permutations

NUMBERS_BEHIND = {0: 1, 1: 1, 2: 1, 3: 0, 4: 0, 5: 3}


def keeps(order, things):
    places = [place for place, thing in enumerate(order) if things >> thing & 1]
    return not places or places[-1] - places[0] + 1 == len(places)


def orders_keeping(n, told):
    return [order for order in permutations(range(n)) if all(keeps(order, things) for things in told)]


def is_between(order, a, b, c):
    places = [order.index(a), order.index(b), order.index(c)]
    return sorted(places)[1] == places[1]


class Trying:
    """The object of the document. For each set it keeps, as bits, the orders that keep it."""

    def __init__(self):
        self.n = 0
        self.told = []

    def to_start(self, n):
        if not 1 <= n <= 64:
            return [-22]
        self.n = n
        self.told = []
        self.every = list(permutations(range(n)))
        self.known = {}
        return [0]

    def bits(self, things):
        if things not in self.known:
            self.known[things] = sum(1 << k for k, order in enumerate(self.every) if keeps(order, things))
        return self.known[things]

    def keeping(self, sets):
        bits = (1 << len(self.every)) - 1
        for things in sets:
            bits &= self.bits(things)
        return bits

    def possible(self, sets):
        return self.keeping(sets) != 0

    def possible_orders(self):
        bits = self.keeping(self.told)
        return [order for k, order in enumerate(self.every) if bits >> k & 1]

    def to_say(self, things):
        if things >= 1 << self.n:
            return [-22]
        if len(self.told) == 64:
            return [-28]
        if not self.possible(self.told + [things]):
            return [-61]
        self.told.append(things)
        return [len(self.told) - 1]

    def to_why(self, things):
        if things >= 1 << self.n:
            return [-22]
        if self.possible(self.told + [things]):
            return [-17]
        left = list(range(len(self.told)))
        for number in range(len(self.told)):
            others = [other for other in left if other != number]
            if not self.possible([self.told[other] for other in others] + [things]):
                left = others
        return [len(left), sum(1 << number for number in left)]

    def to_many(self):
        return [0, len(self.possible_orders())]

    def to_order(self):
        return [self.n] + list(min(self.possible_orders()))

    def to_between(self, a, b, c):
        if len({a, b, c} & set(range(self.n))) != 3:
            return [-22]
        seen = {is_between(order, a, b, c) for order in self.possible_orders()}
        return [2 if len(seen) == 2 else int(seen.pop())]


def tried_answers(calls):
    trying = Trying()
    given = []
    at = 0
    while at < len(calls):
        behind = at + 1 + NUMBERS_BEHIND[calls[at]]
        call = [trying.to_start, trying.to_say, trying.to_why,
                trying.to_many, trying.to_order, trying.to_between][calls[at]]
        answer = call(*calls[at + 1:behind])
        given += [len(answer)] + answer
        at = behind
    return given
