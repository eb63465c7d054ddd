"""Where it usually breaks, each for all six calls."""

import unittest

from tests.lines import asked, between, bits, last, many, order, say, start, why


class TurnedKnot(unittest.TestCase):
    def setUp(self):
        self.row = [start(5), say(2, 1), say(1, 3)]

    def test_as_it_stands(self):
        self.assertEqual(asked(*self.row, many(), order(), between(2, 1, 3), between(1, 2, 3), between(0, 2, 3))[3:],
                         [[0, 12], [5, 0, 2, 1, 3, 4], [1], [0], [2]])

    def test_a_set_within_it(self):
        self.assertEqual(asked(*self.row, say(1, 2, 3), say(3, 1), many(), order(), say(2, 3), why(2, 3), many())[3:],
                         [[2], [3], [0, 12], [5, 0, 2, 1, 3, 4], [-61], [2, bits((0, 3))], [0, 12]])

    def test_a_set_from_one_end_of_it_to_outside(self):
        # The row has to be turned for 0 to stand ahead of it on the side of 3.
        self.assertEqual(
            asked(*self.row, say(0, 3), many(), order(), between(0, 3, 2), between(2, 0, 1), why(0, 2))[3:],
            [[2], [0, 4], [5, 0, 3, 1, 2, 4], [1], [0], [3, 7]])
        self.assertEqual(
            asked(*self.row, say(0, 2), many(), order(), between(0, 2, 3), between(0, 4, 3), why(0, 3))[3:],
            [[2], [0, 4], [5, 0, 2, 1, 3, 4], [1], [0], [3, 7]])

    def test_a_set_from_a_part_of_it_to_outside(self):
        self.assertEqual(asked(*self.row, say(4, 3, 1), many(), order(), between(4, 3, 1), between(4, 1, 2))[3:],
                         [[2], [0, 4], [5, 0, 2, 1, 3, 4], [1], [1]])

    def test_a_set_from_its_middle_to_outside(self):
        self.assertEqual(asked(*self.row, say(1, 0), why(1, 0), many(), order(), between(1, 0, 2))[3:],
                         [[-61], [2, 3], [0, 12], [5, 0, 2, 1, 3, 4], [0]])

    def test_two_turned_knots_are_joined(self):
        rows = [start(5), say(0, 1, 2, 3, 4), say(3, 0), say(0, 2), say(4, 1)]
        self.assertEqual(asked(*rows, many(), order(), between(3, 0, 2), between(0, 1, 4), between(0, 2, 4))[5:],
                         [[0, 8], [5, 1, 4, 2, 0, 3], [1], [2], [2]])
        self.assertEqual(asked(*rows, say(3, 4), many(), order(), between(0, 4, 1), between(3, 2, 4), why(2, 1))[5:],
                         [[4], [0, 2], [5, 1, 4, 3, 0, 2], [1], [0], [4, bits((1, 2, 3, 4))]])


class Refused(unittest.TestCase):
    def test_it_is_not_told(self):
        line = [start(4), say(0, 1), say(1, 2), say(0, 2)]
        self.assertEqual(asked(*line, many(), order(), between(0, 1, 2), between(0, 3, 1), between(0, 1, 3))[3:],
                         [[-61], [0, 4], [4, 0, 1, 2, 3], [1], [0], [2]])
        self.assertEqual(asked(*line, why(0, 2), say(2, 3), why(0, 2), many(), order(), between(0, 2, 3))[4:],
                         [[2, 3], [2], [2, 6], [0, 2], [4, 0, 1, 2, 3], [1]])

    def test_a_strange_thing_is_not_told(self):
        line = [start(3), say(0, 2), say(1, 2, 3)]
        self.assertEqual(asked(*line, many(), order(), between(0, 2, 1), between(0, 1, 2), say(1, 2))[2:],
                         [[-22], [0, 4], [3, 0, 2, 1], [2], [0], [1]])

    def test_the_65th_is_not_told(self):
        line = [start(3)] + [say(0, 2)] * 64 + [say(1, 2)]
        self.assertEqual(asked(*line, many(), order(), between(0, 2, 1), why(1, 2), why(0, 1))[65:],
                         [[-28], [0, 4], [3, 0, 2, 1], [2], [-17], [-17]])


class OneNoneAll(unittest.TestCase):
    def test_they_leave_all_orders(self):
        for things in ((), (0,), (4,), (0, 1, 2, 3, 4)):
            self.assertEqual(asked(start(5), say(*things), many(), order(), between(0, 4, 1), why(*things)),
                             [[0], [0], [0, 120], [5, 0, 1, 2, 3, 4], [2], [-17]], things)

    def test_they_leave_the_orders_of_others(self):
        for things in ((), (0,), (1,), (3,), (0, 1, 2, 3)):
            self.assertEqual(
                asked(start(4), say(3, 1), say(1, 0), say(*things), many(), order(), between(0, 1, 3), why(3, 0))[3:],
                [[2], [0, 4], [4, 0, 1, 3, 2], [1], [2, 3]], things)

    def test_one_thing_alone(self):
        self.assertEqual(asked(start(1), say(), say(0), many(), order(), why(0), why(1), between(0, 0, 0)),
                         [[0], [0], [1], [0, 1], [1, 0], [-17], [-22], [-22]])

    def test_two_things(self):
        self.assertEqual(asked(start(2), say(0, 1), many(), order(), why(0, 1), between(0, 1, 0), between(0, 1, 2)),
                         [[0], [0], [0, 2], [2, 0, 1], [-17], [-22], [-22]])


class SameSetTwice(unittest.TestCase):
    def test_it_changes_no_order(self):
        once = [start(5), say(2, 4), say(4, 1)]
        twice = once + [say(2, 4), say(4, 1)]
        for told in (once, twice):
            self.assertEqual(asked(*told, many(), order(), between(1, 4, 2), between(0, 1, 4))[len(told):],
                             [[0, 12], [5, 0, 1, 4, 2, 3], [1], [2]])
        self.assertEqual(last(*once, why(1, 2)), [2, 3])
        self.assertEqual(last(*twice, why(1, 2)), [2, 12])


class Ring(unittest.TestCase):
    def test_its_last_set_is_refused(self):
        for n in (3, 4, 5):
            row = [say(thing, thing + 1) for thing in range(n - 1)]
            given = asked(start(n), *row, say(0, n - 1), why(0, n - 1), many(), order(), between(0, 1, n - 1),
                          between(0, n - 1, 1))
            self.assertEqual(given[n:], [[-61], [n - 1, (1 << n - 1) - 1], [0, 2], [n] + list(range(n)), [1], [0]], n)

    def test_whichever_set_is_the_last(self):
        for n in (3, 4, 5):
            ring = [(thing, (thing + 1) % n) for thing in range(n)]
            for left_out in range(n):
                row = [say(*pair) for pair in ring[left_out + 1:] + ring[:left_out]]
                given = asked(start(n), *row, say(*ring[left_out]), why(*ring[left_out]), many())
                self.assertEqual(given[n:], [[-61], [n - 1, (1 << n - 1) - 1], [0, 2]], (n, left_out))

    def test_a_ring_of_three_in_a_bigger_row(self):
        self.assertEqual(
            asked(start(5), say(4, 2), say(2, 0), say(4, 0), why(4, 0), many(), order(), between(0, 2, 4))[3:],
            [[-61], [2, 3], [0, 12], [5, 0, 2, 4, 1, 3], [1]])


class OneInCommon(unittest.TestCase):
    def test_the_third_is_refused(self):
        for common in range(4):
            a, b, c = [thing for thing in range(4) if thing != common]
            given = asked(start(4), say(common, a), say(common, b), say(common, c), why(common, c), many(),
                          between(a, common, b), between(a, common, c), between(a, c, b))
            self.assertEqual(given[3:], [[-61], [2, 3], [0, 4], [1], [2], [0]], common)

    def test_the_first_order(self):
        self.assertEqual(asked(start(4), say(0, 3), say(0, 2), say(0, 1), order())[3:], [[-61], [4, 1, 2, 0, 3]])


class EndsAreNotBetween(unittest.TestCase):
    def test_an_end_that_is_asked_for(self):
        row = [start(4), say(0, 1), say(1, 2), say(2, 3)]
        self.assertEqual(asked(*row, between(0, 0, 3), between(0, 3, 3), between(0, 1, 3), between(0, 2, 3))[4:],
                         [[-22], [-22], [1], [1]])

    def test_an_end_of_the_row(self):
        row = [start(4), say(0, 1), say(1, 2), say(2, 3)]
        self.assertEqual(asked(*row, between(1, 0, 2), between(1, 3, 2), between(3, 0, 1), between(0, 3, 1))[4:],
                         [[0], [0], [0], [0]])


class TurnedRound(unittest.TestCase):
    def test_an_order_and_the_same_turned_round_are_two(self):
        self.assertEqual(asked(start(2), many(), say(0, 1), many()), [[0], [0, 2], [0], [0, 2]])
        self.assertEqual(last(start(3), say(0, 1), say(1, 2), many()), [0, 2])

    def test_the_first_of_both_is_told(self):
        self.assertEqual(last(start(3), say(2, 0), say(0, 1), order()), [3, 1, 0, 2])
        self.assertEqual(last(start(3), say(1, 0), say(0, 2), order()), [3, 1, 0, 2])

    def test_between_is_the_same_from_both_sides(self):
        row = [start(4), say(3, 1), say(1, 0)]
        for a, b, c, answer in ((0, 1, 3, 1), (1, 0, 3, 0), (0, 1, 2, 2)):
            self.assertEqual(asked(*row, between(a, b, c), between(c, b, a))[3:], [[answer], [answer]])


if __name__ == "__main__":
    unittest.main()
