"""Promise 2: keeps."""

import unittest

from knotpanels.desk import keeps
from tests.helper import after, all_panels, long_bytes, mixed, moved_by, plain, samples, told, wrong_panels


class Keeps(unittest.TestCase):
    def test_told_by_hand(self):
        self.assertEqual(keeps(told(1, 1, [])), [8, 1, 1, 1, 1, 1, 1, 1, 1])
        self.assertEqual(keeps(plain(3, 3, 2)), [8, 1, 1, 1, 1, 1, 1, 1, 1])
        self.assertEqual(keeps(plain(8, 8, 0)), [8, 1, 1, 1, 1, 1, 1, 1, 1])
        self.assertEqual(keeps(plain(3, 2, 1)), [4, 1, 0, 1, 0, 1, 0, 1, 0])
        self.assertEqual(keeps(plain(1, 2, 1)), [4, 1, 0, 1, 0, 1, 0, 1, 0])
        self.assertEqual(keeps(told(3, 1, [0, 1])), [2, 1, 0, 0, 0, 0, 0, 1, 0])
        self.assertEqual(keeps(told(1, 3, [0, 1])), [2, 1, 0, 0, 0, 1, 0, 0, 0])
        # One break in the upper upright place: left and right may be changed.
        self.assertEqual(keeps(told(2, 2, [1, 0, 0, 0])), [2, 1, 0, 0, 0, 1, 0, 0, 0])
        # Upright all broken, level all crossings: the square's quarters change it.
        self.assertEqual(keeps(told(2, 2, [1, 1, 0, 0])), [4, 1, 0, 1, 0, 1, 0, 1, 0])
        # Upper and right alike, lower and left alike: one slanting mirror.
        self.assertEqual(keeps(told(2, 2, [1, 0, 0, 1])), [2, 1, 0, 0, 0, 0, 1, 0, 0])
        self.assertEqual(keeps(told(2, 2, [1, 0, 1, 0])), [2, 1, 0, 0, 0, 0, 0, 0, 1])
        self.assertEqual(keeps(told(2, 2, [0, 1, 2, 2])), [2, 1, 0, 0, 0, 1, 0, 0, 0])

    def test_only_motion_nought(self):
        self.assertEqual(keeps(told(2, 2, [0, 1, 0, 2])), [1, 1, 0, 0, 0, 0, 0, 0, 0])
        self.assertEqual(keeps(told(2, 3, [0, 1, 2, 0, 1, 2, 2])), [1, 1, 0, 0, 0, 0, 0, 0, 0])
        self.assertEqual(keeps(told(3, 2, [0, 1, 2, 2, 1, 0, 2])), [1, 1, 0, 0, 0, 0, 0, 0, 0])

    def test_turned_but_not_mirrored(self):
        pinwheel = [0] * 12
        # Each turn of the upper left upright place, and no mirror of it.
        for place in (0, 8, 5, 9):
            pinwheel[place] = 1
        b = told(3, 3, pinwheel)
        expected = [1 if moved_by(b, m) == b else 0 for m in range(8)]
        self.assertEqual(expected, [1, 1, 1, 1, 0, 0, 0, 0])
        self.assertEqual(keeps(b), [4] + expected)

    def test_samples_against_grids(self):
        panels = samples() + list(all_panels(2, 2, 3)) + list(all_panels(3, 2, 2))
        for b in panels:
            expected = [1 if moved_by(b, m) == b else 0 for m in range(8)]
            self.assertEqual(keeps(b), [sum(expected)] + expected, b)

    def test_what_keeps_can_be_done_one_after_another(self):
        for b in all_panels(2, 2, 3):
            kept = [m for m in range(8) if keeps(b)[1 + m] == 1]
            self.assertIn(0, kept)
            for first in kept:
                for second in kept:
                    self.assertIn(after(first, second), kept)

    def test_answers_are_plain_numbers(self):
        for number in keeps(plain(2, 2, 0)):
            self.assertIs(type(number), int)

    def test_refusals(self):
        for b in wrong_panels():
            self.assertEqual(keeps(b), [-6], b)
        for b in long_bytes():
            self.assertEqual(keeps(b), [-2])

    def test_nothing_is_changed_or_kept(self):
        b = mixed(3, 3, 5)
        before = list(b)
        self.assertEqual(keeps(b), keeps(b))
        self.assertEqual(b, before)


if __name__ == "__main__":
    unittest.main()
