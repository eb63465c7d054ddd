"""Promise 2."""

import unittest

from tests.lines import asked, last, say, start, why

ALL_BITS = [1, 18446744073709551615]


class Refusals(unittest.TestCase):
    def test_a_thing_that_is_not_below_n(self):
        for n in (1, 2, 3, 4, 5):
            self.assertEqual(asked(start(n), say(n - 1), say(n), say(0, n), say(63), ALL_BITS),
                             [[0], [0], [-22], [-22], [-22], [-22]], n)

    def test_all_64_things(self):
        self.assertEqual(asked(start(64), ALL_BITS, say(63), say(0, 63)), [[0], [0], [1], [2]])

    def test_a_refused_set_has_no_number(self):
        self.assertEqual(asked(start(3), say(3), say(0), say(7), say(1)), [[0], [-22], [0], [-22], [1]])

    def test_the_65th_set(self):
        given = asked(start(5), *[say(0, 1)] * 66)
        self.assertEqual(given[1:65], [[number] for number in range(64)])
        self.assertEqual(given[65:], [[-28], [-28]])

    def test_refused_sets_do_not_fill_the_64(self):
        ring = [start(3), say(0, 1), say(1, 2), say(0, 2), say(3)]
        self.assertEqual(asked(*ring, *[say()] * 63)[-2:], [[63], [-28]])

    def test_no_order(self):
        self.assertEqual(asked(start(3), say(0, 1), say(1, 2), say(0, 2)), [[0], [0], [1], [-61]])

    def test_what_no_order_keeps_is_not_told(self):
        # Were {0, 2} told, no order at all would be left, and nothing more could be said.
        self.assertEqual(
            asked(start(4), say(0, 1), say(1, 2), say(0, 2), say(0, 2), say(2, 3), say(0, 1, 2), why(0, 2)),
            [[0], [0], [1], [-61], [-61], [2], [3], [2, 6]])

    def test_a_refused_set_holds_nothing_together(self):
        # {0, 3} is refused, so that 3 may stand as far from 0 as the told ones let it.
        self.assertEqual(asked(start(5), say(0, 1), say(0, 2), say(0, 3), say(2, 4), say(3, 4), say(1, 3)),
                         [[0], [0], [1], [-61], [2], [3], [-61]])


class WhichRefusalIsFirst(unittest.TestCase):
    def setUp(self):
        self.full = [start(3), say(0, 1), say(1, 2)] + [say()] * 62

    def test_a_strange_thing_ahead_of_64_sets(self):
        self.assertEqual(last(*self.full, say(3)), [-22])

    def test_64_sets_ahead_of_no_order(self):
        self.assertEqual(last(*self.full, say(0, 2)), [-28])

    def test_a_strange_thing_ahead_of_no_order(self):
        self.assertEqual(last(start(3), say(0, 1), say(1, 2), say(0, 2, 3)), [-22])


class Edges(unittest.TestCase):
    def test_sets_of_one_none_and_all(self):
        for n in (1, 2, 3, 4, 5):
            sets = [say()] + [say(thing) for thing in range(n)] + [say(*range(n))]
            self.assertEqual(asked(start(n), *sets)[1:], [[number] for number in range(n + 2)], n)

    def test_sets_of_one_none_and_all_deny_nothing(self):
        self.assertEqual(
            asked(start(3), say(), say(0), say(1), say(2), say(0, 1, 2), say(0, 2), say(0, 1), say(1, 2))[-3:],
            [[5], [6], [-61]])

    def test_sets_of_one_none_and_all_behind_others(self):
        self.assertEqual(asked(start(3), say(0, 1), say(1, 2), say(), say(1), say(0, 1, 2))[-3:], [[2], [3], [4]])

    def test_the_same_set_twice(self):
        self.assertEqual(asked(start(4), say(1, 2), say(1, 2), say(0, 1), say(1, 2), say(0, 2)),
                         [[0], [0], [1], [2], [3], [-61]])

    def test_a_ring(self):
        for n in (3, 4, 5):
            row = [say(thing, thing + 1) for thing in range(n - 1)]
            self.assertEqual(asked(start(n), *row, say(0, n - 1))[1:],
                             [[number] for number in range(n - 1)] + [[-61]], n)

    def test_three_sets_of_two_with_one_in_common(self):
        self.assertEqual(asked(start(4), say(0, 1), say(0, 2), say(0, 3)), [[0], [0], [1], [-61]])

    def test_a_set_in_a_knot_that_turns(self):
        row = [start(5), say(0, 1), say(1, 2), say(2, 3), say(3, 4)]
        self.assertEqual(asked(*row, say(1, 2, 3), say(2, 3, 4), say(3, 4), say(1, 3), say(0, 1, 3, 4))[5:],
                         [[4], [5], [6], [-61], [-61]])

    def test_a_set_from_both_ends_of_a_knot_that_turns(self):
        # The row 0 1 2 can be turned, so 3 may stand beside 0 or 2, but not beside both.
        row = [start(4), say(0, 1), say(1, 2)]
        self.assertEqual(last(*row, say(0, 3)), [2])
        self.assertEqual(last(*row, say(2, 3)), [2])
        self.assertEqual(last(*row, say(1, 3)), [-61])
        self.assertEqual(last(*row, say(2, 3), say(0, 3)), [-61])

    def test_sets_that_part_one_another(self):
        self.assertEqual(asked(start(5), say(0, 1, 2), say(2, 3, 4), say(0, 2), say(2, 3), say(1, 2), say(0, 1)),
                         [[0], [0], [1], [2], [3], [-61], [4]])

    def test_one_thing_and_two(self):
        self.assertEqual(asked(start(1), say(0), say(), say(1)), [[0], [0], [1], [-22]])
        self.assertEqual(asked(start(2), say(0, 1), say(1), say(2)), [[0], [0], [1], [-22]])


if __name__ == "__main__":
    unittest.main()
