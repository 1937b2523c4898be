"""Promise 4: same."""

import unittest

from knotpanels.desk import form, moved, same
from tests.helper import all_panels, long_bytes, mixed, moved_by, plain, samples, told, wrong_panels


class Same(unittest.TestCase):
    def test_told_by_hand(self):
        b = told(3, 1, [0, 2])
        self.assertEqual(same(b, told(3, 1, [0, 2])), [1, 0])
        self.assertEqual(same(b, told(1, 3, [0, 2])), [1, 1])
        self.assertEqual(same(b, told(3, 1, [2, 0])), [1, 2])
        self.assertEqual(same(b, told(1, 3, [2, 0])), [1, 3])
        self.assertEqual(same(b, told(3, 1, [0, 1])), [0])
        self.assertEqual(same(told(1, 1, []), told(1, 1, [])), [1, 0])

    def test_every_motion_is_told(self):
        b = told(3, 3, [0, 1, 2, 2, 0, 1, 0, 0, 2, 1, 1, 0])
        self.assertEqual([same(b, moved_by(b, m)) for m in range(8)], [[1, m] for m in range(8)])

    def test_the_first_motion_is_told(self):
        for b in samples(2):
            all_eight = [moved_by(b, m) for m in range(8)]
            for c in all_eight:
                self.assertEqual(same(b, c), [1, all_eight.index(c)], b)

    def test_all_small_pairs_against_least_forms(self):
        panels = list(all_panels(2, 2, 3)) + list(all_panels(3, 1, 3)) + list(all_panels(1, 3, 3))
        for b in panels:
            all_eight = [moved_by(b, m) for m in range(8)]
            for c in panels:
                expected = [1, all_eight.index(c)] if c in all_eight else [0]
                self.assertEqual(same(b, c), expected, (b, c))
                self.assertEqual(form(b)[2:] == form(c)[2:], expected[0] == 1)

    def test_different_sizes(self):
        self.assertEqual(same(plain(2, 2, 0), plain(3, 3, 0)), [0])
        self.assertEqual(same(plain(8, 8, 0), plain(8, 7, 0)), [0])
        # As many places, and all of one kind: one row of five, a square of four.
        self.assertEqual(same(plain(5, 1, 0), plain(2, 2, 0)), [0])
        self.assertEqual(same(plain(5, 3, 1), plain(3, 5, 1)), [1, 1])

    def test_one_place_apart(self):
        b = mixed(8, 8, 1)
        c = moved(5, b)[1:]
        self.assertEqual(same(b, c), [1, 5])
        c[117] = (c[117] + 1) % 3
        self.assertEqual(same(b, c), [0])

    def test_the_same_list_twice(self):
        b = mixed(4, 5, 1)
        self.assertEqual(same(b, b), [1, 0])

    def test_wrong_bytes(self):
        right = plain(2, 2, 0)
        for wrong in wrong_panels():
            self.assertEqual(same(wrong, right), [-6], wrong)
            self.assertEqual(same(right, wrong), [-6], wrong)
            self.assertEqual(same(wrong, wrong), [-6], wrong)

    def test_too_long_comes_first(self):
        right = plain(2, 2, 0)
        for long in long_bytes():
            for other in (right, [], [0] * 1024, long):
                self.assertEqual(same(long, other), [-2])
                self.assertEqual(same(other, long), [-2])

    def test_nothing_is_changed_or_kept(self):
        b, c = mixed(3, 4, 5), moved_by(mixed(3, 4, 5), 3)
        before = list(b), list(c)
        self.assertEqual(same(b, c), same(b, c))
        self.assertEqual((b, c), before)


if __name__ == "__main__":
    unittest.main()
