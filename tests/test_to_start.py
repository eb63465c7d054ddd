"""Promise 1."""

import unittest

from tests.lines import asked, last, say, start, why


class ToStart(unittest.TestCase):
    def test_from_1_to_64(self):
        for n in (1, 2, 3, 4, 5, 64):
            self.assertEqual(asked(start(n)), [[0]], n)

    def test_refused_outside(self):
        for n in (0, 65, 66, 4294967295):
            self.assertEqual(asked(start(n)), [[-22]], n)

    def test_refused_till_one_is_answered_0(self):
        self.assertEqual(asked(start(0), start(65), start(5), say(4)), [[-22], [-22], [0], [0]])

    def test_again_forgets_all_that_was_told(self):
        self.assertEqual(
            asked(start(3), say(0, 1), say(1, 2), say(0, 2), start(3), say(0, 2), say(0, 1), say(1, 2)),
            [[0], [0], [1], [-61], [0], [0], [1], [-61]])

    def test_again_forgets_for_to_why(self):
        self.assertEqual(last(start(3), say(0, 1), say(1, 2), start(3), why(0, 2)), [-17])

    def test_again_with_another_n(self):
        self.assertEqual(asked(start(5), say(4), start(2), say(2), say(1)), [[0], [0], [0], [-22], [0]])
        self.assertEqual(asked(start(2), say(2), start(5), say(4)), [[0], [-22], [0], [0]])

    def test_again_makes_room_for_64_sets(self):
        full = [start(2)] + [say(0)] * 64
        self.assertEqual(asked(*full, say(0), start(2), say(0), say(0))[-4:], [[-28], [0], [0], [1]])

    def test_refused_again_leaves_all_as_it_was(self):
        for n in (0, 65, 4294967295):
            self.assertEqual(
                asked(start(3), say(0, 1), say(1, 2), start(n), say(0, 2), why(0, 2), say(3), say(2)),
                [[0], [0], [1], [-22], [-61], [2, 3], [-22], [2]], n)


if __name__ == "__main__":
    unittest.main()
