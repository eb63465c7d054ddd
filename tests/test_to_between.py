"""Promise 6."""

import unittest
from itertools import permutations, product

from tests.lines import asked, between, last, say, start, why


class Refusals(unittest.TestCase):
    def test_two_are_equal(self):
        for three in ((0, 0, 1), (0, 1, 1), (0, 1, 0), (2, 2, 2), (2, 0, 2), (1, 2, 2)):
            self.assertEqual(last(start(3), between(*three)), [-22], three)
            self.assertEqual(last(start(3), say(0, 1), say(1, 2), between(*three)), [-22], three)

    def test_one_is_not_below_n(self):
        for n in (3, 4, 5):
            for strange in (n, n + 1, 64, 4294967295):
                for three in permutations((0, 1, strange)):
                    self.assertEqual(last(start(n), between(*three)), [-22], (n, three))

    def test_several_are_not_below_n(self):
        for three in ((0, 3, 4), (3, 0, 4), (3, 4, 0), (3, 4, 5), (4294967295, 4294967294, 4294967293), (9, 9, 9)):
            self.assertEqual(last(start(3), between(*three)), [-22], three)

    def test_all_three_below_n(self):
        for n in (3, 4, 5):
            for three in permutations(range(n), 3):
                self.assertEqual(last(start(n), between(*three)), [2], (n, three))

    def test_there_are_no_three_things(self):
        for n in (1, 2):
            for three in product((0, 1, 2, 3, 4294967295), repeat=3):
                self.assertEqual(last(start(n), between(*three)), [-22], (n, three))


class AllNoneOrSome(unittest.TestCase):
    def check(self, told, surely, never, perhaps):
        """Each three with a and c changing places too."""
        for answer, threes in ((1, surely), (0, never), (2, perhaps)):
            for a, b, c in threes:
                self.assertEqual(last(*told, between(a, b, c)), [answer], (told, a, b, c))
                self.assertEqual(last(*told, between(c, b, a)), [answer], (told, c, b, a))

    def test_a_row_of_three(self):
        self.check([start(3), say(0, 1), say(1, 2)], [(0, 1, 2)], [(1, 0, 2), (0, 2, 1)], [])
        self.check([start(3), say(0, 1), say(0, 2)], [(1, 0, 2)], [(0, 1, 2), (0, 2, 1)], [])
        self.check([start(3), say(0, 2), say(1, 2)], [(0, 2, 1)], [(0, 1, 2), (1, 0, 2)], [])

    def test_what_stands_outside_a_set_is_not_between_its_things(self):
        self.check([start(3), say(0, 1)], [], [(0, 2, 1)], [(2, 0, 1), (2, 1, 0)])
        self.check([start(5), say(1, 3, 4)], [], [(1, 0, 3), (1, 2, 4), (3, 2, 4)],
                   [(0, 1, 3), (2, 4, 1), (1, 3, 4), (3, 1, 4), (0, 1, 2), (1, 0, 2), (0, 2, 1)])

    def test_a_whole_row_of_five(self):
        row = [start(5), say(3, 0), say(0, 4), say(4, 1), say(1, 2)]
        surely = [(3, 0, 4), (3, 0, 1), (3, 0, 2), (3, 4, 1), (3, 4, 2), (3, 1, 2), (0, 4, 1), (0, 4, 2), (0, 1, 2),
                  (4, 1, 2)]
        never = [(b, a, c) for a, b, c in surely] + [(a, c, b) for a, b, c in surely]
        self.check(row, surely, never, [])

    def test_the_ends_of_a_row_are_not_between(self):
        row = [start(5), say(0, 1), say(1, 2), say(2, 3), say(3, 4)]
        for end in (0, 4):
            for a, c in permutations([thing for thing in range(5) if thing != end], 2):
                self.assertEqual(last(*row, between(a, end, c)), [0], (a, end, c))

    def test_b_the_same_as_an_end_is_refused(self):
        row = [start(5), say(0, 1), say(1, 2), say(2, 3), say(3, 4)]
        for a, c in permutations(range(5), 2):
            self.assertEqual(last(*row, between(a, a, c)), [-22], (a, c))
            self.assertEqual(last(*row, between(a, c, c)), [-22], (a, c))

    def test_a_knot_that_turns_beside_a_free_thing(self):
        self.check([start(4), say(0, 1), say(1, 2)], [(0, 1, 2)],
                   [(0, 2, 1), (1, 0, 2), (0, 3, 1), (0, 3, 2), (1, 3, 2)],
                   [(0, 1, 3), (1, 0, 3), (2, 0, 3), (2, 1, 3), (0, 2, 3), (1, 2, 3)])

    def test_parts_of_a_knot_that_turns(self):
        # 0 and 1, then 2, then 3 and 4: within the outer parts either may come first.
        self.check([start(5), say(0, 1, 2), say(2, 3, 4)],
                   [(0, 2, 3), (0, 2, 4), (1, 2, 3), (1, 2, 4)],
                   [(0, 2, 1), (3, 2, 4), (0, 3, 1), (0, 4, 1), (3, 0, 4), (2, 0, 3), (2, 3, 0), (0, 4, 2)],
                   [(0, 1, 2), (1, 0, 2), (0, 1, 3), (1, 0, 4), (2, 3, 4), (2, 4, 3), (0, 3, 4), (1, 4, 3)])

    def test_three_within_a_knot_below_another(self):
        self.check([start(5), say(1, 2), say(2, 3), say(1, 2, 3, 4)],
                   [(1, 2, 3)], [(1, 3, 2), (2, 1, 3), (1, 4, 3), (1, 0, 4)],
                   [(0, 1, 2), (0, 1, 4), (0, 4, 1), (4, 1, 2), (4, 3, 1)])


class SayingMore(unittest.TestCase):
    def test_some_becomes_all_or_none(self):
        self.assertEqual(
            asked(start(3), between(0, 1, 2), say(0, 1), between(0, 1, 2), between(0, 2, 1), say(1, 2),
                  between(0, 1, 2), between(0, 2, 1))[1:],
            [[2], [0], [2], [0], [1], [1], [0]])

    def test_a_refused_set_settles_nothing(self):
        self.assertEqual(
            asked(start(4), say(0, 1), say(1, 2), say(0, 2), between(0, 1, 3), between(0, 2, 1), say(4),
                  between(0, 1, 3), why(0, 2), between(0, 1, 2))[3:],
            [[-61], [2], [0], [-22], [2], [2, 3], [1]])

    def test_started_again(self):
        row = [start(3), say(0, 1), say(1, 2)]
        self.assertEqual(asked(*row, start(65), between(0, 1, 2), start(3), between(0, 1, 2))[3:],
                         [[-22], [1], [0], [2]])
        self.assertEqual(asked(*row, start(2), between(0, 1, 2), start(4), between(0, 1, 3))[3:],
                         [[0], [-22], [0], [2]])

    def test_sets_of_one_none_and_all_settle_nothing(self):
        told = [start(3), say(), say(0), say(1), say(2), say(0, 1, 2)]
        for three in permutations(range(3)):
            self.assertEqual(last(*told, between(*three)), [2], three)


class ManyThings(unittest.TestCase):
    def test_64_things(self):
        # More things than a line has, but to_start takes them.
        self.assertEqual(last(start(64), between(0, 63, 62)), [2])
        self.assertEqual(last(start(64), between(0, 64, 62)), [-22])
        row = [say(thing, thing + 1) for thing in range(63)]
        self.assertEqual(asked(start(64), *row, between(0, 31, 63), between(0, 63, 31))[64:], [[1], [0]])
        nested = [say(*range(size)) for size in range(2, 63)]
        self.assertEqual(asked(start(64), *nested, between(0, 63, 1), between(0, 1, 2), between(0, 2, 1))[62:],
                         [[0], [2], [0]])


if __name__ == "__main__":
    unittest.main()
