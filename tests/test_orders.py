"""The interface, and whole lines held against answers worked out by trying every order."""

import random
import unittest
from itertools import combinations, permutations, product

from tests.by_trying import orders_keeping, tried_answers
from tests.lines import asked, bits
from togethersets.orders import answers


QUESTIONS = (2, 3, 4, 5)


def drawn_calls(draw, most):
    """A line as may be handed in, a list for each call: only to_start till one is answered 0."""
    calls = []
    n = 0
    for _ in range(draw.randint(1, most)):
        if n and draw.random() < 0.97:
            calls.append(drawn_call(draw, n))
        else:
            number = draw.choice((0, 1, 2, 3, 4, 4, 5, 5, 5, 65, 4294967295))
            n = number if 1 <= number <= 5 else n
            calls.append([0, number])
    return calls


def drawn_call(draw, n):
    call = draw.choice((1, 1, 1, 1, 2, 2, 3, 4, 5, 5))
    if call in (1, 2):
        return [call, drawn_set(draw, n)]
    if call == 5:
        return [call] + drawn_three(draw, n)
    return [call]


def drawn_set(draw, n):
    if draw.random() < 0.04:
        return draw.choice((1 << n, (1 << n) + 1, 18446744073709551615))
    if draw.random() < 0.5:
        return bits(draw.sample(range(n), min(n, 2)))
    return draw.randrange(1 << n)


def drawn_three(draw, n):
    if n >= 3 and draw.random() < 0.8:
        return draw.sample(range(n), 3)
    return [draw.choice((0, 1, n - 1, n, 4294967295)) for _ in range(3)]


def drawn_line(draw, most):
    return joined(drawn_calls(draw, most))


def joined(calls):
    return [number for call in calls for number in call]


class OnlyRead(list):
    """A list that fails when it's changed."""

    def refuse(self, *given, **named):
        raise AssertionError("what was handed in is changed")

    append = extend = insert = remove = pop = clear = sort = reverse = refuse
    __setitem__ = __delitem__ = __iadd__ = __imul__ = refuse


class Interface(unittest.TestCase):
    def test_how_answers_are_laid_out(self):
        self.assertEqual(answers([0, 0, 0, 3, 1, 3, 1, 6, 2, 5, 2, 3, 1, 5, 1, 8]),
                         [1, -22, 1, 0, 1, 0, 1, 1, 2, 2, 3, 1, -17, 1, -61, 1, -22])

    def test_how_all_six_are_laid_out(self):
        self.assertEqual(answers([0, 3, 1, 6, 3, 4, 5, 0, 1, 2, 1, 5, 5, 0, 2, 1, 5, 0, 3, 1, 4, 2, 3, 3]),
                         [1, 0, 1, 0, 2, 0, 4, 4, 3, 0, 1, 2, 1, 2, 1, 1, 1, 1, 1, -22, 4, 3, 0, 2, 1, 2, 2, 3,
                          2, 0, 2])

    def test_one_call(self):
        self.assertEqual(answers([0, 1]), [1, 0])

    def test_whole_numbers_in_a_list(self):
        given = answers([0, 3, 1, 3, 1, 6, 2, 5, 2, 3, 3, 4, 5, 0, 1, 2, 5, 0, 2, 1, 5, 0, 0, 1])
        self.assertIs(type(given), list)
        self.assertEqual({type(number) for number in given}, {int})

    def test_what_is_handed_in_stays_and_nothing_is_kept(self):
        draw = random.Random(4)
        for _ in range(50):
            line = drawn_line(draw, 80)
            handed = list(line)
            first = answers(handed)
            self.assertEqual(handed, line)
            answers([0, 3, 1, 3, 1, 6])
            self.assertEqual(answers(handed), first)
            self.assertEqual(handed, line)

    def test_what_is_handed_in_is_not_changed_for_a_while_either(self):
        draw = random.Random(15)
        for _ in range(20):
            line = drawn_line(draw, 80)
            self.assertEqual(answers(OnlyRead(line)), answers(line))

    def test_what_is_given_back_is_the_callers_own(self):
        first = answers([0, 3, 1, 3, 4])
        first.append(9)
        self.assertEqual(answers([0, 3, 1, 3, 4]), [1, 0, 1, 0, 4, 3, 0, 1, 2])


class ByTrying(unittest.TestCase):
    def test_three_sets_and_why(self):
        for n in (1, 2, 3):
            for sets in product(range((1 << n) + 1), repeat=3):
                line = [0, n, 1, sets[0], 1, sets[1], 2, sets[2], 1, sets[2], 2, sets[0]]
                self.assertEqual(answers(line), tried_answers(line), line)

    def test_four_things(self):
        for sets in product(range(16), repeat=3):
            line = [0, 4, 1, sets[0], 1, sets[1], 2, sets[2], 1, sets[2]]
            self.assertEqual(answers(line), tried_answers(line), line)

    def test_the_orders_behind_two_sets(self):
        for n in (3, 4, 5):
            threes = [[5, a, b, c] for a, b, c in permutations(range(n), 3) if a < c]
            for sets in combinations(range(1 << n), 2):
                line = joined([[0, n], [1, sets[0]], [1, sets[1]], [3], [4]] + threes)
                self.assertEqual(answers(line), tried_answers(line), line)

    def test_the_orders_behind_three_sets(self):
        for n in (3, 4):
            threes = [[5, a, b, c] for a, b, c in permutations(range(n), 3) if a < c]
            for sets in combinations(range(1 << n), 3):
                line = joined([[0, n]] + [[1, things] for things in sets] + [[3], [4]] + threes)
                self.assertEqual(answers(line), tried_answers(line), line)

    def test_drawn_lines(self):
        draw = random.Random(5)
        for most, times in ((12, 800), (80, 250)):
            for _ in range(times):
                line = drawn_line(draw, most)
                self.assertEqual(answers(line), tried_answers(line), line)

    def test_drawn_lines_of_80_calls_have_all_that_may_be_answered(self):
        draw = random.Random(8)
        seen = {}
        for _ in range(60):
            calls = []
            while len(calls) < 80:
                calls = drawn_calls(draw, 80)
            line = joined(calls)
            self.assertEqual(answers(line), tried_answers(line), line)
            for call, answer in zip(calls, asked(*calls)):
                seen.setdefault(call[0], set()).add(min(answer[0], 3 if call[0] == 5 else 0))
        self.assertEqual(seen, {0: {0, -22}, 1: {0, -22, -61}, 2: {0, -17, -22}, 3: {0}, 4: {0}, 5: {0, 1, 2, -22}})

    def test_why_for_every_set_behind_64(self):
        draw = random.Random(6)
        for _ in range(10):
            told = []
            while len(told) < 64:
                things = draw.randrange(32)
                if orders_keeping(5, told + [things]):
                    told.append(things)
            says = [number for things in told for number in (1, things)]
            for first in (0, 15, 30):
                line = [0, 5] + says + [number for things in range(first, first + 15) for number in (2, things)]
                self.assertEqual(answers(line), tried_answers(line), line)


class QuestionsChangeNothing(unittest.TestCase):
    def test_what_is_answered_is_as_if_they_had_not_been_asked(self):
        draw = random.Random(9)
        for _ in range(150):
            calls = drawn_calls(draw, 80)
            given = asked(*calls)
            for left_out in QUESTIONS:
                kept = [place for place, call in enumerate(calls) if call[0] != left_out]
                if kept:
                    self.assertEqual(asked(*[calls[place] for place in kept]), [given[place] for place in kept], calls)

    def test_between_all_others(self):
        told = [[0, 5], [1, 7], [1, 12], [1, 9], [1, 6], [2, 9], [1, 48], [1, 24]]
        for question in ([3], [4], [5, 0, 2, 3], [5, 0, 0, 3], [5, 5, 0, 1]):
            mixed = [call for old in told for call in (old, question)]
            self.assertEqual(asked(*mixed)[::2], asked(*told), question)

    def test_asked_twice_they_answer_the_same(self):
        draw = random.Random(10)
        for _ in range(60):
            calls = drawn_calls(draw, 40)
            given = asked(*calls)
            twice = [call for call in calls for _ in range(2 if call[0] in QUESTIONS else 1)]
            self.assertEqual(asked(*twice),
                             [answer for call, answer in zip(calls, given)
                              for _ in range(2 if call[0] in QUESTIONS else 1)], calls)


class WhatHolds(unittest.TestCase):
    def drawn_told(self, draw, n):
        """Sets that were told one behind another, as none of them was refused."""
        told = []
        for _ in range(draw.randint(0, 5)):
            things = draw.randrange(1 << n)
            if orders_keeping(n, told + [things]):
                told.append(things)
        return told

    def test_of_any_three_just_one_is_in_the_middle(self):
        # In each order: so one surely is and the others never, or two at least may be, and none surely is.
        draw = random.Random(11)
        for _ in range(300):
            n = draw.choice((3, 4, 5))
            says = [[1, things] for things in self.drawn_told(draw, n)]
            for a, b, c in combinations(range(n), 3):
                given = asked([0, n], *says, [5, b, a, c], [5, a, b, c], [5, a, c, b])[-3:]
                self.assertIn(sorted(given), [[[0], [0], [1]], [[0], [2], [2]], [[2], [2], [2]]], (n, says, a, b, c))

    def test_a_whole_row_has_just_one_in_the_middle(self):
        for row in permutations(range(5)):
            says = [[1, bits(row[place:place + 2])] for place in range(4)]
            for three in combinations(range(5), 3):
                a, b, c = [row[place] for place in three]
                given = asked([0, 5], *says, [5, a, b, c], [5, b, a, c], [5, a, c, b], [3], [4])[-5:]
                self.assertEqual(given, [[1], [0], [0], [0, 2], [5] + list(min(row, row[::-1]))])

    def test_with_a_set_more_there_are_no_more_orders(self):
        draw = random.Random(12)
        for _ in range(200):
            n = draw.choice((2, 3, 4, 5))
            calls = [[0, n], [3]]
            for _ in range(20):
                calls += [[1, draw.randrange(1 << n)], [3]]
            given = asked(*calls)
            counts = [answer[1] for answer in given[1::2]]
            said = [answer[0] for answer in given[2::2]]
            for answer, before, behind in zip(said, counts, counts[1:]):
                self.assertLessEqual(behind, before)
                self.assertGreaterEqual(behind, 1)
                if answer < 0:
                    self.assertEqual(behind, before)

    def test_the_first_order_is_one_of_them_and_none_comes_ahead(self):
        draw = random.Random(13)
        for _ in range(200):
            n = draw.choice((3, 4, 5))
            told = self.drawn_told(draw, n)
            possible = orders_keeping(n, told)
            given = asked([0, n], *[[1, things] for things in told], [3], [4])
            self.assertEqual(given[-2:], [[0, len(possible)], [n] + list(min(possible))], (n, told))

    def test_none_that_why_tells_could_be_left_out(self):
        draw = random.Random(7)
        seen = 0
        for _ in range(200):
            told = []
            for _ in range(12):
                things = draw.randrange(32)
                said = [[1, old] for old in told]
                answer = asked([0, 5], *said, [2, things])[-1]
                if answer == [-17]:
                    told.append(things)
                    continue
                seen += 1
                left = [number for number in range(64) if answer[1] >> number & 1]
                self.assertEqual(answer[0], len(left))
                self.assertEqual(orders_keeping(5, [told[number] for number in left] + [things]), [])
                for number in left:
                    rest = [told[other] for other in left if other != number]
                    self.assertNotEqual(orders_keeping(5, rest + [things]), [])
        self.assertGreater(seen, 100)


if __name__ == "__main__":
    unittest.main()
