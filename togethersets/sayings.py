"""The object that is told which things stood together."""

from togethersets.knots import tree_keeping_all, tree_of_all
from togethersets.readings import first_order, how_many_orders, how_surely_between

MOST_THINGS = 64
MOST_SETS = 64

NOT_A_THING = -22
TOO_MANY_SETS = -28
NO_ORDER = -61
SOME_ORDER = -17


class Sayings:
    """The sets that were told, and the tree of the orders that keep them all.

    Each call answers a list of numbers: a refusal alone, or all that is answered.
    """

    def __init__(self):
        self.n = 0
        self.told = []
        self.tree = None

    def to_start(self, n):
        if n < 1 or n > MOST_THINGS:
            return [NOT_A_THING]
        self.n = n
        self.told = []
        self.tree = tree_of_all(n)
        return [0]

    def to_say(self, things):
        if self.has_strangers(things):
            return [NOT_A_THING]
        if len(self.told) == MOST_SETS:
            return [TOO_MANY_SETS]
        tree = tree_keeping_all(self.tree, [things])
        if tree is None:
            return [NO_ORDER]
        self.tree = tree
        self.told.append(things)
        return [len(self.told) - 1]

    def to_why(self, things):
        if self.has_strangers(things):
            return [NOT_A_THING]
        if tree_keeping_all(self.tree, [things]) is not None:
            return [SOME_ORDER]
        needed = self.needed_against(things)
        numbers = 0
        for number in needed:
            numbers = numbers | (1 << number)
        return [len(needed), numbers]

    def to_many(self):
        return [0, how_many_orders(self.tree)]

    def to_order(self):
        return [self.n] + first_order(self.tree)

    def to_between(self, a, b, c):
        if a == b or b == c or a == c or max(a, b, c) >= self.n:
            return [NOT_A_THING]
        return [how_surely_between(self.tree, a, b, c)]

    def has_strangers(self, things):
        return things >> self.n != 0

    def needed_against(self, things):
        """The numbers of the told sets that deny this one together, none of which could be left out."""
        needed = []
        # The tree of the set and of the needed ones so far: those left out don't count any more.
        tree = tree_keeping_all(tree_of_all(self.n), [things])
        for number in range(len(self.told)):
            if tree_keeping_all(tree, self.told[number + 1:]) is not None:
                needed.append(number)
                tree = tree_keeping_all(tree, [self.told[number]])
        return needed
