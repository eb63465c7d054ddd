"""Promise 4."""

import unittest

from tests.lines import asked, last, many, say, start, why


class NothingTold(unittest.TestCase):
    def test_all_orders(self):
        for n, count in ((1, 1), (2, 2), (3, 6), (4, 24), (5, 120)):
            self.assertEqual(last(start(n), many()), [0, count], n)

    def test_sets_of_one_none_and_all_leave_all_orders(self):
        for n, count in ((1, 1), (2, 2), (3, 6), (4, 24), (5, 120)):
            sets = [say()] + [say(thing) for thing in range(n)] + [say(*range(n))]
            self.assertEqual(last(start(n), *sets, many()), [0, count], n)


class SetsTold(unittest.TestCase):
    def test_one_set(self):
        # The set's things among themselves, times the set as one thing among the others.
        for size, count in ((2, 2 * 24), (3, 6 * 6), (4, 24 * 2)):
            self.assertEqual(last(start(5), say(*range(size)), many()), [0, count], size)

    def test_sets_with_nothing_in_common(self):
        self.assertEqual(last(start(5), say(0, 4), say(1, 3), many()), [0, 2 * 2 * 6])
        self.assertEqual(last(start(5), say(0, 4), say(1, 2, 3), many()), [0, 2 * 6 * 2])

    def test_a_set_within_a_set(self):
        self.assertEqual(last(start(4), say(0, 1, 2), say(0, 1), many()), [0, 8])

    def test_sets_that_share_a_thing_only_turn(self):
        self.assertEqual(last(start(3), say(0, 1), say(1, 2), many()), [0, 2])
        self.assertEqual(last(start(4), say(0, 1), say(1, 2), many()), [0, 2 * 2])
        self.assertEqual(last(start(5), say(0, 1), say(1, 2), many()), [0, 2 * 6])

    def test_a_knot_that_turns_over_knots_that_change_places(self):
        self.assertEqual(last(start(5), say(0, 1, 2), say(2, 3, 4), many()), [0, 2 * 2 * 2])

    def test_a_whole_row(self):
        for n in (2, 3, 4, 5):
            row = [say(thing, thing + 1) for thing in range(n - 1)]
            self.assertEqual(last(start(n), *row, many()), [0, 2], n)

    def test_one_set_after_another(self):
        given = asked(start(5), many(), say(0, 1, 2), many(), say(1, 2), many(), say(2, 3), many(), say(1, 2), many(),
                      say(3, 4), many())
        self.assertEqual(given[1::2], [[0, 120], [0, 36], [0, 24], [0, 4], [0, 4], [0, 2]])


class WhatLeavesTheNumber(unittest.TestCase):
    def test_a_refused_set(self):
        self.assertEqual(
            asked(start(4), say(0, 1), say(1, 2), many(), say(0, 2), many(), say(4), many(), why(0, 2), many())[3:],
            [[0, 4], [-61], [0, 4], [-22], [0, 4], [2, 3], [0, 4]])

    def test_the_65th_set(self):
        self.assertEqual(asked(start(4), *[say(0, 1)] * 64, many(), say(1, 2), many())[65:],
                         [[0, 12], [-28], [0, 12]])

    def test_the_same_set_twice(self):
        self.assertEqual(asked(start(4), say(1, 3), many(), say(1, 3), many()), [[0], [0], [0, 12], [1], [0, 12]])

    def test_to_why(self):
        self.assertEqual(asked(start(4), why(0, 1), many(), say(0, 1), why(1, 2), many())[2::3], [[0, 24], [0, 12]])


class StartedAgain(unittest.TestCase):
    def test_answered_0(self):
        self.assertEqual(asked(start(4), say(0, 1), many(), start(4), many(), start(3), many(), start(5), many()),
                         [[0], [0], [0, 12], [0], [0, 24], [0], [0, 6], [0], [0, 120]])

    def test_refused(self):
        for n in (0, 65, 4294967295):
            self.assertEqual(asked(start(4), say(0, 1), start(n), many(), say(1, 2), many()),
                             [[0], [0], [-22], [0, 12], [1], [0, 4]], n)

    def test_refused_at_the_beginning(self):
        self.assertEqual(asked(start(0), start(65), start(3), many()), [[-22], [-22], [0], [0, 6]])


class ManyThings(unittest.TestCase):
    def test_64_things(self):
        # More things than a line has, but to_start takes them.
        count = 1
        for factor in range(1, 65):
            count *= factor
        self.assertEqual(last(start(64), many()), [0, count])
        self.assertEqual(last(start(64), say(*range(1, 64)), many()), [0, 2 * count // 64])


if __name__ == "__main__":
    unittest.main()
