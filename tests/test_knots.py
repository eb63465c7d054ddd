"""What holds: just the orders that keep all told sets can be read from the tree, each in one way."""

import random
import unittest
from itertools import permutations, product

from tests.by_trying import is_between, orders_keeping
from togethersets.knots import tree_keeping_all, tree_of_all
from togethersets.readings import first_order, how_many_orders, how_surely_between


def read_from(knot):
    """Every order that can be read from a tree, as often as it can be read."""
    if not knot.below:
        return [(knot.things.bit_length() - 1,)]
    if knot.only_turns:
        rows = [knot.below, knot.below[::-1]]
    else:
        rows = permutations(knot.below)
    return [sum(parts, ()) for row in rows for parts in product(*[read_from(below) for below in row])]


def cut_from_one_row(draw, n):
    """Sets that never deny one another, so that trees with many knots come about."""
    row = draw.sample(range(n), n)
    told = []
    for _ in range(draw.randint(1, 6)):
        ends = sorted(draw.sample(range(n + 1), 2))
        told.append(sum(1 << thing for thing in row[ends[0]:ends[1]]))
    return told


class Tree(unittest.TestCase):
    def check(self, n, told):
        tree = tree_keeping_all(tree_of_all(n), told)
        read = [] if tree is None else sorted(read_from(tree))
        self.assertEqual(read, orders_keeping(n, told), (n, told))

    def test_one_set(self):
        for n in (1, 2, 3, 4, 5):
            for things in range(1 << n):
                self.check(n, [things])

    def test_up_to_three_sets_of_few_things(self):
        for n in (1, 2, 3):
            for told in product(range(1 << n), repeat=3):
                self.check(n, list(told))

    def test_two_sets_of_four_things(self):
        for told in product(range(16), repeat=2):
            self.check(4, list(told))

    def test_many_sets_drawn_with_a_fixed_seed(self):
        draw = random.Random(2)
        for n, times in ((4, 300), (5, 300), (6, 60), (7, 10)):
            for _ in range(times):
                self.check(n, [draw.randrange(1 << n) for _ in range(draw.randint(1, 5))])

    def test_sets_that_some_order_keeps(self):
        draw = random.Random(3)
        for n, times in ((5, 200), (6, 60), (7, 10)):
            for _ in range(times):
                self.check(n, cut_from_one_row(draw, n))

    def test_a_tree_is_not_changed_by_what_is_made_from_it(self):
        tree = tree_keeping_all(tree_of_all(5), [7, 6])
        before = sorted(read_from(tree))
        for things in range(32):
            tree_keeping_all(tree, [things, 12])
        self.assertEqual(sorted(read_from(tree)), before)


class Readings(unittest.TestCase):
    def test_as_if_each_order_were_read(self):
        draw = random.Random(14)
        for n, times in ((3, 30), (4, 60), (5, 150), (6, 60), (7, 8)):
            for _ in range(times):
                tree = tree_keeping_all(tree_of_all(n), cut_from_one_row(draw, n))
                read = read_from(tree)
                self.assertEqual(how_many_orders(tree), len(read))
                self.assertEqual(first_order(tree), list(min(read)))
                a, b, c = draw.sample(range(n), 3)
                seen = sum(is_between(order, a, b, c) for order in read)
                self.assertEqual(how_surely_between(tree, a, b, c), {0: 0, len(read): 1}.get(seen, 2))


if __name__ == "__main__":
    unittest.main()
