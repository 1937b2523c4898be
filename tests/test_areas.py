"""Promise 7: areas."""

import unittest

from knotpanels.desk import areas, moved
from tests.helper import (
    all_panels, courts_of, group_count, long_bytes, mixed, plain, rooms_of, samples, told, wrong_panels,
)


class Areas(unittest.TestCase):
    def test_told_by_hand(self):
        self.assertEqual(areas(told(1, 1, [])), [2, 1, 1])
        # Crossings alone: each square a room, each inner corner a court.
        self.assertEqual(areas(plain(3, 2, 0)), [9, 6, 3])
        self.assertEqual(areas(plain(8, 8, 0)), [114, 64, 50])
        # All broken along: all corners are of the outside.
        self.assertEqual(areas(plain(3, 2, 1)), [7, 6, 1])
        # All broken across: one room, each inner corner a court.
        self.assertEqual(areas(plain(3, 2, 2)), [4, 1, 3])
        self.assertEqual(areas(plain(8, 8, 2)), [51, 1, 50])
        self.assertEqual(areas(plain(5, 1, 0)), [6, 5, 1])
        self.assertEqual(areas(told(1, 4, [2, 1, 2])), [3, 2, 1])

    def test_a_court_within(self):
        # Three by three: the upper side of the middle square broken along joins two inner corners.
        stands = [0] * 12
        stands[7] = 1
        self.assertEqual(areas(told(3, 3, stands)), [13, 9, 4])
        # Its four sides: one court of four corners, not of the outside.
        for place in (2, 3, 7, 10):
            stands[place] = 1
        self.assertEqual(areas(told(3, 3, stands)), [11, 9, 2])
        # One side more, from there to the border: all is the outside.
        stands[0] = 1
        self.assertEqual(areas(told(3, 3, stands)), [10, 9, 1])

    def test_samples_by_squares_and_corners(self):
        for b in samples() + list(all_panels(2, 2, 3)):
            rooms, courts = len(rooms_of(b)), len(courts_of(b))
            self.assertEqual(areas(b), [rooms + courts, rooms, courts], b)

    def test_as_many_as_crossings_groups_and_one(self):
        panels = list(all_panels(2, 2, 3)) + list(all_panels(3, 2, 2)) + list(all_panels(1, 4, 3))
        for b in panels + samples(2):
            self.assertEqual(areas(b)[0], b[6:].count(0) + group_count(b) + 1, b)

    def test_moved_panels_have_as_many(self):
        for b in (mixed(4, 6, 1), mixed(5, 5, 2)):
            for m in range(8):
                self.assertEqual(areas(moved(m, b)[1:]), areas(b))

    def test_refusals(self):
        for b in wrong_panels():
            self.assertEqual(areas(b), [-6], b)
        for b in long_bytes():
            self.assertEqual(areas(b), [-2])

    def test_nothing_is_changed_or_kept(self):
        b = mixed(3, 4, 5)
        before = list(b)
        self.assertEqual(areas(b), areas(b))
        self.assertEqual(b, before)


if __name__ == "__main__":
    unittest.main()
