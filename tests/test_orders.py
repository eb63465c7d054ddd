"""The interface, and whole lines held against answers worked out by trying every order."""

import random
import unittest
from itertools import product

from tests.by_trying import orders_keeping, tried_answers
from tests.lines import asked, bits
from togethersets.orders import answers


def drawn_line(draw, most):
    """A line as may be handed in: only to_start till one is answered 0."""
    line = []
    n = 0
    for _ in range(draw.randint(1, most)):
        call = draw.choice((1, 1, 1, 2, 2)) if n and draw.random() < 0.97 else 0
        if call == 0:
            number = draw.choice((0, 1, 2, 3, 4, 4, 5, 5, 5, 65, 4294967295))
            n = number if 1 <= number <= 5 else n
        elif draw.random() < 0.04:
            number = draw.choice((1 << n, (1 << n) + 1, 18446744073709551615))
        elif draw.random() < 0.5:
            number = bits(draw.sample(range(n), min(n, 2)))
        else:
            number = draw.randrange(1 << n)
        line += [call, number]
    return line


class Interface(unittest.TestCase):
    def test_how_answers_are_laid_out(self):
        self.assertEqual(answers([0, 0, 0, 3, 1, 3, 1, 6, 2, 5, 2, 3, 1, 5, 1, 8]),
                         [1, -22, 1, 0, 1, 0, 1, 1, 2, 2, 3, 1, -17, 1, -61, 1, -22])

    def test_one_call(self):
        self.assertEqual(answers([0, 1]), [1, 0])

    def test_whole_numbers_in_a_list(self):
        given = answers([0, 3, 1, 3, 1, 6, 2, 5, 2, 3])
        self.assertIs(type(given), list)
        self.assertEqual({type(number) for number in given}, {int})

    def test_what_is_handed_in_stays_and_nothing_is_kept(self):
        draw = random.Random(4)
        for _ in range(50):
            line = drawn_line(draw, 80)
            handed = list(line)
            first = answers(handed)
            self.assertEqual(handed, line)
            answers([0, 3, 1, 3, 1, 6])
            self.assertEqual(answers(handed), first)
            self.assertEqual(handed, line)

    def test_what_is_given_back_is_the_callers_own(self):
        first = answers([0, 3, 1, 3])
        first.append(9)
        self.assertEqual(answers([0, 3, 1, 3]), [1, 0, 1, 0])


class ByTrying(unittest.TestCase):
    def test_three_sets_and_why(self):
        for n in (1, 2, 3):
            for sets in product(range((1 << n) + 1), repeat=3):
                line = [0, n, 1, sets[0], 1, sets[1], 2, sets[2], 1, sets[2], 2, sets[0]]
                self.assertEqual(answers(line), tried_answers(line), line)

    def test_four_things(self):
        for sets in product(range(16), repeat=3):
            line = [0, 4, 1, sets[0], 1, sets[1], 2, sets[2], 1, sets[2]]
            self.assertEqual(answers(line), tried_answers(line), line)

    def test_drawn_lines(self):
        draw = random.Random(5)
        for most, times in ((12, 600), (80, 200)):
            for _ in range(times):
                line = drawn_line(draw, most)
                self.assertEqual(answers(line), tried_answers(line), line)

    def test_why_for_every_set_behind_64(self):
        draw = random.Random(6)
        for _ in range(10):
            told = []
            while len(told) < 64:
                things = draw.randrange(32)
                if orders_keeping(5, told + [things]):
                    told.append(things)
            says = [number for things in told for number in (1, things)]
            for first in (0, 15, 30):
                line = [0, 5] + says + [number for things in range(first, first + 15) for number in (2, things)]
                self.assertEqual(answers(line), tried_answers(line), line)


class WhatHolds(unittest.TestCase):
    def test_none_that_why_tells_could_be_left_out(self):
        draw = random.Random(7)
        seen = 0
        for _ in range(200):
            told = []
            for _ in range(12):
                things = draw.randrange(32)
                said = [[1, old] for old in told]
                answer = asked([0, 5], *said, [2, things])[-1]
                if answer == [-17]:
                    told.append(things)
                    continue
                seen += 1
                left = [number for number in range(64) if answer[1] >> number & 1]
                self.assertEqual(answer[0], len(left))
                self.assertEqual(orders_keeping(5, [told[number] for number in left] + [things]), [])
                for number in left:
                    rest = [told[other] for other in left if other != number]
                    self.assertNotEqual(orders_keeping(5, rest + [things]), [])
        self.assertGreater(seen, 100)


if __name__ == "__main__":
    unittest.main()
