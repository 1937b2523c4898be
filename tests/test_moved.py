"""Promise 1: moved."""

import unittest

from knotpanels.desk import moved
from tests.helper import after, long_bytes, mixed, moved_by, plain, samples, told, wrong_panels


class Moved(unittest.TestCase):
    def test_each_motion_told_by_hand(self):
        # Three wide, two high: upright places 0 1 / 2 2, level places 1 0 2.
        b = told(3, 2, [0, 1, 2, 2, 1, 0, 2])
        turned = {
            0: told(3, 2, [0, 1, 2, 2, 1, 0, 2]),
            1: told(2, 3, [1, 0, 2, 2, 0, 2, 1]),
            2: told(3, 2, [2, 2, 1, 0, 2, 0, 1]),
            3: told(2, 3, [2, 0, 1, 1, 2, 0, 2]),
            4: told(3, 2, [1, 0, 2, 2, 2, 0, 1]),
            5: told(2, 3, [2, 0, 1, 2, 1, 2, 0]),
            6: told(3, 2, [2, 2, 0, 1, 1, 0, 2]),
            7: told(2, 3, [1, 0, 2, 0, 2, 1, 2]),
        }
        for m in range(8):
            self.assertEqual(moved(m, b), [13] + turned[m], m)

    def test_samples_against_grids(self):
        for b in samples():
            for m in range(8):
                self.assertEqual(moved(m, b), [len(b)] + moved_by(b, m), (m, b))

    def test_motions_one_after_another_are_motions(self):
        for b in (mixed(5, 3, 1), mixed(3, 3, 2), mixed(2, 7, 3)):
            for first in range(8):
                once = moved(first, b)[1:]
                for second in range(8):
                    self.assertEqual(moved(second, once), moved(after(first, second), b))

    def test_one_square_and_one_row(self):
        for m in range(8):
            self.assertEqual(moved(m, told(1, 1, [])), [6] + told(1, 1, []))
        row = told(4, 1, [0, 1, 2])
        self.assertEqual(moved(0, row), [9] + row)
        self.assertEqual(moved(1, row), [9] + told(1, 4, [0, 1, 2]))
        self.assertEqual(moved(2, row), [9] + told(4, 1, [2, 1, 0]))
        self.assertEqual(moved(7, row), [9] + told(1, 4, [0, 1, 2]))

    def test_eight_by_eight(self):
        b = told(8, 8, [1] * 56 + [2] * 56)
        self.assertEqual(moved(0, b), [118] + b)
        self.assertEqual(moved(1, b), [118] + told(8, 8, [2] * 56 + [1] * 56))

    def test_no_such_motion(self):
        b = plain(2, 2, 1)
        self.assertEqual(moved(7, b)[0], 10)
        for m in (8, 9, 4294967295):
            self.assertEqual(moved(m, b), [-1])

    def test_refusals_in_their_order(self):
        for b in wrong_panels():
            for m in (0, 7, 8, 4294967295):
                self.assertEqual(moved(m, b), [-6], b)
        for b in long_bytes():
            for m in (0, 8):
                self.assertEqual(moved(m, b), [-2])

    def test_nothing_is_changed_or_kept(self):
        b = mixed(4, 3, 5)
        before = list(b)
        answers = [moved(m, b) for m in range(8)]
        self.assertEqual(b, before)
        answers[0].append(7)
        self.assertEqual(moved(0, b), answers[0][:-1])
        self.assertEqual([moved(m, b) for m in range(1, 8)], answers[1:])
        self.assertEqual(b, before)


if __name__ == "__main__":
    unittest.main()
