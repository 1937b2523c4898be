"""Promise 15: band_panel."""

import unittest

from knotpanels.desk import band_panel, keeps
from tests.helper import (
    from_grid, long_bytes, mixed, open_rows, plain, sample_bands, told, wrong_betweens, wrong_panels,
)

MOST = 4294967295


class BandPanel(unittest.TestCase):
    def test_told_by_hand(self):
        square = told(1, 1, [])
        self.assertEqual(band_panel(1, square, [2]), [6] + square)
        self.assertEqual(band_panel(4, square, [2]), [9] + told(4, 1, [2, 2, 2]))
        self.assertEqual(band_panel(3, told(2, 1, [1]), [0]), [11] + told(6, 1, [1, 0, 1, 0, 1]))
        # One wide: all that stands upright is what's between.
        self.assertEqual(band_panel(3, told(1, 2, [2]), [0, 1]), [13] + told(3, 2, [0, 0, 1, 1, 2, 2, 2]))
        # Upright 1 / 2, level 0 1; between 0 and 1.
        twice = told(4, 2, [1, 0, 1, 2, 1, 2, 0, 1, 0, 1])
        self.assertEqual(band_panel(2, told(2, 2, [1, 2, 0, 1]), [0, 1]), [16] + twice)

    def test_against_rows_of_cells(self):
        for b, j in sample_bands():
            for n in range(1, 8 // b[4] + 1):
                expected = from_grid(open_rows(b, j, n))
                self.assertEqual(band_panel(n, b, j), [len(expected)] + expected, (n, b, j))

    def test_one_copy_is_the_unit(self):
        for b, j in sample_bands():
            self.assertEqual(band_panel(1, b, j), [len(b)] + b)

    def test_copies_of_copies(self):
        b, j = mixed(2, 5, 1), [0, 1, 2, 2, 0]
        twice = band_panel(2, b, j)[1:]
        self.assertEqual(band_panel(2, twice, j), band_panel(4, b, j))

    def test_panels_are_right(self):
        for b, j in sample_bands():
            told_panel = band_panel(8 // b[4], b, j)
            self.assertEqual(told_panel[0], len(told_panel) - 1)
            self.assertEqual(told_panel[5:7], [8 // b[4] * b[4], b[5]])
            self.assertGreater(keeps(told_panel[1:])[0], 0)

    def test_just_eight_wide(self):
        for wide, most in ((1, 8), (2, 4), (3, 2), (4, 2), (5, 1), (6, 1), (7, 1), (8, 1)):
            for high in (1, 3, 8):
                b, j = mixed(wide, high, 1), [2] * high
                expected = from_grid(open_rows(b, j, most))
                self.assertEqual(band_panel(most, b, j), [len(expected)] + expected)
                for n in (most + 1, most + 2, 9, 536870912, 2147483648, MOST):
                    self.assertEqual(band_panel(n, b, j), [-1], (n, wide))

    def test_no_copies(self):
        for b, j in sample_bands():
            self.assertEqual(band_panel(0, b, j), [-1])

    def test_wrong_lists(self):
        for b in (told(1, 1, []), mixed(2, 3, 1), mixed(3, 2, 1), mixed(1, 8, 1)):
            for j in wrong_betweens(b[5]):
                for n in (0, 1, 9, MOST):
                    self.assertEqual(band_panel(n, b, j), [-9], (b, j))

    def test_refusals_in_their_order(self):
        right = plain(2, 2, 1)
        for n in (0, 1, 9):
            for b in wrong_panels():
                for j in ([0, 0], [], [3, 3], [0] * 1024):
                    self.assertEqual(band_panel(n, b, j), [-6], (b, j))
            for b in long_bytes():
                for j in ([0], [], [3] * 1024, [0] * 1025):
                    self.assertEqual(band_panel(n, b, j), [-2])
            for b in (right, [], [0] * 1024, [0] * 1025):
                for j in ([0] * 1025, [3] * 2000):
                    self.assertEqual(band_panel(n, b, j), [-2])

    def test_nothing_is_changed_or_kept(self):
        b, j = mixed(3, 4, 5), [0, 1, 2, 0]
        before = list(b), list(j)
        for n in (1, 2):
            first = band_panel(n, b, j)
            first.append(7)
            self.assertEqual(band_panel(n, b, j), first[:-1])
        self.assertEqual((b, j), before)


if __name__ == "__main__":
    unittest.main()
