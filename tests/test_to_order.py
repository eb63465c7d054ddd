"""Promise 5."""

import unittest

from tests.by_trying import orders_keeping
from tests.lines import asked, last, order, say, start, why


class NothingTold(unittest.TestCase):
    def test_the_things_as_they_are_numbered(self):
        for n in (1, 2, 3, 4, 5):
            self.assertEqual(last(start(n), order()), [n] + list(range(n)), n)

    def test_sets_of_one_none_and_all_leave_the_order(self):
        for n in (1, 2, 3, 4, 5):
            sets = [say()] + [say(thing) for thing in range(n)] + [say(*range(n))]
            self.assertEqual(last(start(n), *sets, order()), [n] + list(range(n)), n)


class TheLesserFirst(unittest.TestCase):
    def test_a_set_is_drawn_together(self):
        self.assertEqual(last(start(5), say(0, 4), order()), [5, 0, 4, 1, 2, 3])
        self.assertEqual(last(start(5), say(1, 4), order()), [5, 0, 1, 4, 2, 3])
        self.assertEqual(last(start(5), say(3, 4), order()), [5, 0, 1, 2, 3, 4])

    def test_several_sets_with_nothing_in_common(self):
        self.assertEqual(last(start(5), say(1, 4), say(0, 3), order()), [5, 0, 3, 1, 4, 2])
        self.assertEqual(last(start(5), say(2, 3), say(1, 4), order()), [5, 0, 1, 4, 2, 3])

    def test_where_0_cannot_be_the_first(self):
        self.assertEqual(last(start(3), say(0, 1), say(0, 2), order()), [3, 1, 0, 2])
        self.assertEqual(last(start(4), say(0, 2), say(0, 3), order()), [4, 1, 2, 0, 3])
        self.assertEqual(last(start(5), say(0, 4), say(0, 1), say(1, 2, 3), order()), [5, 2, 3, 1, 0, 4])
        self.assertEqual(last(start(5), say(0, 4), say(0, 3), say(3, 1), say(4, 2), order()), [5, 1, 3, 0, 4, 2])

    def test_a_row_is_turned_to_its_lesser_end(self):
        self.assertEqual(last(start(3), say(2, 1), say(1, 0), order()), [3, 0, 1, 2])
        self.assertEqual(last(start(5), say(4, 1), say(1, 3), say(3, 0), say(0, 2), order()), [5, 2, 0, 3, 1, 4])
        self.assertEqual(last(start(5), say(2, 1), say(1, 3), say(3, 0), say(0, 4), order()), [5, 2, 1, 3, 0, 4])

    def test_a_row_within_a_row_is_turned_by_itself(self):
        # What changes places within a part of a row does so whichever way the row is turned.
        self.assertEqual(last(start(5), say(4, 1, 2), say(2, 3), order()), [5, 0, 1, 4, 2, 3])
        self.assertEqual(last(start(5), say(0, 1, 2), say(2, 3, 4), order()), [5, 0, 1, 2, 3, 4])
        self.assertEqual(last(start(5), say(4, 3, 2), say(0, 1, 3), order()), [5, 0, 1, 3, 2, 4])
        self.assertEqual(last(start(5), say(4, 1, 0), say(0, 2, 3), order()), [5, 1, 4, 0, 2, 3])

    def test_the_last_thing_that_is_free(self):
        self.assertEqual(last(start(4), say(1, 2, 3), say(1, 3), say(1, 2), order()), [4, 0, 2, 1, 3])

    def test_it_is_the_first_for_every_two_sets(self):
        for first in range(32):
            for second in range(32):
                self.assertEqual(last(start(5), [1, first], [1, second], order()),
                                 [5] + list(orders_keeping(5, [first, second])[0]))


class WhatLeavesTheOrder(unittest.TestCase):
    def test_a_refused_set(self):
        self.assertEqual(
            asked(start(4), say(0, 2), say(2, 1), say(0, 1), order(), say(4), order(), why(0, 1), order())[3:],
            [[-61], [4, 0, 2, 1, 3], [-22], [4, 0, 2, 1, 3], [2, 3], [4, 0, 2, 1, 3]])

    def test_the_same_set_twice(self):
        self.assertEqual(asked(start(4), say(0, 3), say(0, 3), order()), [[0], [0], [1], [4, 0, 3, 1, 2]])

    def test_started_again(self):
        self.assertEqual(asked(start(4), say(0, 3), start(65), order(), start(3), order(), start(4), order()),
                         [[0], [0], [-22], [4, 0, 3, 1, 2], [0], [3, 0, 1, 2], [0], [4, 0, 1, 2, 3]])


class ManyThings(unittest.TestCase):
    def test_64_things(self):
        # More things than a line has, but to_start takes them.
        self.assertEqual(last(start(64), order()), [64] + list(range(64)))
        nested = [say(*range(size, 64)) for size in range(1, 63)]
        self.assertEqual(last(start(64), *nested, order()), [64] + list(range(64)))
        self.assertEqual(last(start(64), say(0, 62), say(0, 63), order()), [64] + list(range(1, 62)) + [62, 0, 63])


if __name__ == "__main__":
    unittest.main()
