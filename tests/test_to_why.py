"""Promise 3."""

import unittest

from tests.lines import asked, bits, last, say, start, why


class Refusals(unittest.TestCase):
    def test_a_thing_that_is_not_below_n(self):
        for n in (1, 2, 3, 4, 5):
            self.assertEqual(asked(start(n), why(n), why(0, n), [2, 18446744073709551615]),
                             [[0], [-22], [-22], [-22]], n)

    def test_a_strange_thing_ahead_of_what_no_order_keeps(self):
        self.assertEqual(last(start(3), say(0, 1), say(1, 2), why(0, 2, 3)), [-22])

    def test_some_order_keeps_it(self):
        self.assertEqual(asked(start(3), why(0, 2), say(0, 1), why(0, 2), why(0, 1), why(1, 2)),
                         [[0], [-17], [0], [-17], [-17], [-17]])

    def test_sets_of_one_none_and_all_can_always_be_told(self):
        self.assertEqual(asked(start(3), say(0, 1), say(1, 2), why(), why(0), why(1), why(2), why(0, 1, 2))[3:],
                         [[-17]] * 5)


class WhichAreLeft(unittest.TestCase):
    def test_a_ring(self):
        for n in (3, 4, 5):
            row = [say(thing, thing + 1) for thing in range(n - 1)]
            self.assertEqual(last(start(n), *row, why(0, n - 1)), [n - 1, (1 << (n - 1)) - 1], n)

    def test_three_sets_of_two_with_one_in_common(self):
        self.assertEqual(last(start(4), say(0, 1), say(0, 2), why(0, 3)), [2, 3])

    def test_what_has_no_part_in_it_is_left_out(self):
        self.assertEqual(last(start(5), say(3, 4), say(0, 1), say(), say(1, 2), say(0, 1, 2), why(0, 2)),
                         [2, bits((1, 3))])

    def test_of_the_same_set_twice_the_later_is_left(self):
        self.assertEqual(last(start(3), say(0, 1), say(1, 2), say(0, 1), why(0, 2)), [2, bits((1, 2))])
        self.assertEqual(last(start(3), say(0, 1), say(0, 1), say(1, 2), say(1, 2), why(0, 2)), [2, bits((1, 3))])

    def test_of_two_reasons_the_one_told_later_is_left(self):
        # Each of the pairs denies {0, 4}: 0 has two neighbours by the first, 4 by the second.
        first = [say(0, 1), say(0, 2)]
        second = [say(4, 2), say(4, 3)]
        self.assertEqual(last(start(5), *first, *second, why(0, 4)), [2, bits((2, 3))])
        self.assertEqual(last(start(5), *second, *first, why(0, 4)), [2, bits((2, 3))])

    def test_what_was_left_out_before_does_not_come_back(self):
        # Number 0 is left out, as 1 and 3 do without it; 3 is needed then, though 0 says the same.
        self.assertEqual(last(start(3), say(0, 1), say(1, 2), say(0, 1, 2), say(0, 1), why(0, 2)), [2, bits((1, 3))])

    def test_refused_sets_are_no_reasons(self):
        self.assertEqual(asked(start(4), say(0, 1), say(0, 2), say(0, 3), say(0, 1, 2), say(1, 2), why(0, 3))[3:],
                         [[-61], [2], [-61], [2, 3]])

    def test_one_alone_denies_nothing(self):
        for told in range(32):
            for things in range(32):
                self.assertEqual(last(start(5), [1, told], [2, things]), [-17])

    def test_a_set_that_others_make_needless_is_left_out(self):
        self.assertEqual(last(start(4), say(0, 1, 2), say(0, 1), say(1, 2), why(1, 3)), [2, bits((1, 2))])
        self.assertEqual(last(start(4), say(0, 1), say(1, 2), say(0, 1, 2), why(1, 3)), [2, bits((0, 1))])


class NothingChanges(unittest.TestCase):
    def test_asked_again_it_answers_the_same(self):
        self.assertEqual(asked(start(3), say(0, 1), say(1, 2), why(0, 2), why(0, 2), why(0, 1), why(0, 1), why(3))[3:],
                         [[2, 3], [2, 3], [-17], [-17], [-22]])

    def test_it_tells_nothing(self):
        self.assertEqual(asked(start(3), why(0, 2), say(0, 1), why(1, 2), say(0, 2), why(1, 2), say(1, 2)),
                         [[0], [-17], [0], [-17], [1], [2, 3], [-61]])

    def test_what_it_leaves_out_stays_told(self):
        # {0, 1} as number 0 is left out of the reasons, but goes on denying, and 4 sets are told all the same.
        line = [start(5), say(0, 1), say(1, 2), say(0, 1), why(0, 2), say(3, 4), why(0, 2)]
        self.assertEqual(asked(*line)[4:], [[2, 6], [3], [2, 6]])


class With64Sets(unittest.TestCase):
    def test_the_last_two_deny_it(self):
        told = [say()] * 62 + [say(0, 1), say(1, 2)]
        self.assertEqual(asked(start(3), *told, why(0, 2), why(0, 1), why(3), say(0))[65:],
                         [[2, 3 << 62], [-17], [-22], [-28]])

    def test_the_first_and_the_last_deny_it(self):
        told = [say(0, 1)] + [say(0)] * 62 + [say(1, 2)]
        self.assertEqual(last(start(3), *told, why(0, 2)), [2, 1 << 63 | 1])

    def test_many_times_the_same(self):
        told = [say(0, 1), say(1, 2)] * 32
        self.assertEqual(last(start(5), *told, why(0, 2)), [2, 3 << 62])

    def test_none_denies_it(self):
        self.assertEqual(last(start(5), *[say(0, 1)] * 64, why(1, 2)), [-17])

    def test_a_deep_tree(self):
        # More things than a line has, but to_start takes them. 60 .. 1 0 61 62 63 keeps {0, 61}, and all that's told.
        nested = [say(*range(size)) for size in range(2, 63)]
        self.assertEqual(asked(start(64), *nested, say(61, 62), say(62, 63), why(0, 61), why(62, 0), why(0, 1))[62:],
                         [[61], [62], [-17], [2, bits((61, 62))], [-17]])


if __name__ == "__main__":
    unittest.main()
