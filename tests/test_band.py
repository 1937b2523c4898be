"""Promise 13: band."""

import math
import unittest

from knotpanels.desk import band, band_panel, round_of, strand_to
from tests.helper import (
    all_panels, long_bytes, mixed, mixed_between, plain, sample_bands, strands_of, told, traced_strands,
    wrong_betweens, wrong_panels,
)

MOST = 4294967295


def both(n, b, j):
    """How many strands n copies have open, and as a ring."""
    return [band(0, n, b, j)[0], band(1, n, b, j)[0]]


class Band(unittest.TestCase):
    def test_told_by_hand(self):
        square = told(1, 1, [])
        # Squares beside one another, broken along: each is a strand, whether they come round or not.
        self.assertEqual([both(n, square, [1]) for n in (1, 2, 7)], [[1, 1], [2, 2], [7, 7]])
        # Broken across: one strand about the row; round, one along the upper border and one along the lower.
        self.assertEqual([both(n, square, [2]) for n in (1, 2, 7)], [[1, 2], [1, 2], [1, 2]])
        # Crossed: open one strand; round, two of an even row, one of an odd.
        self.assertEqual([both(n, square, [0]) for n in (1, 2, 7, 8)], [[1, 1], [1, 2], [1, 1], [1, 2]])
        # Two rows that nothing leads between.
        self.assertEqual(both(3, told(1, 2, [1]), [1, 2]), [4, 5])

    def test_plain_plaits(self):
        for high in range(1, 9):
            for wide in range(1, 9):
                for n in (1, 2, 3, 5, 12, 840, 1000003, MOST - 15, MOST):
                    told_strands = band(0, n, plain(wide, high, 0), [0] * high)
                    self.assertEqual(told_strands, [math.gcd(n * wide, high)], (n, wide, high))

    def test_against_lines_followed(self):
        for b, j in sample_bands():
            for n in (1, 2, 3, 4, 7):
                if n * b[4] * b[5] <= 200:
                    expected = [traced_strands(b, j, n, False), traced_strands(b, j, n, True)]
                    self.assertEqual(both(n, b, j), expected, (n, b, j))

    def test_against_lines_followed_far(self):
        for b, j in ((mixed(3, 2, 1), [0, 2]), (mixed(2, 3, 4), [1, 0, 0]), (plain(1, 4, 0), [0, 2, 0, 0])):
            for n in (19, 32, 45):
                expected = [traced_strands(b, j, n, False), traced_strands(b, j, n, True)]
                self.assertEqual(both(n, b, j), expected, (n, b, j))

    def test_all_small_units(self):
        for b in all_panels(2, 2, 3):
            for j in ([0, 0], [0, 1], [2, 0], [1, 2], [2, 2]):
                for n in (1, 3):
                    expected = [traced_strands(b, j, n, False), traced_strands(b, j, n, True)]
                    self.assertEqual(both(n, b, j), expected, (n, b, j))

    def test_against_the_panel_of_copies(self):
        for b, j in sample_bands():
            for n in range(1, 8 // b[4] + 1):
                panel = band_panel(n, b, j)[1:]
                strands = len(strands_of(panel))
                self.assertEqual(band(0, n, b, j), [strands], (n, b, j))
                self.assertEqual(strand_to(0, strands - 1, panel), [strands - 1])
                self.assertEqual(strand_to(0, strands, panel), [-4])

    def test_one_copy_open_is_the_unit(self):
        for b, j in sample_bands():
            self.assertEqual(band(0, 1, b, j), [len(strands_of(b))])

    def test_a_ring_broken_along_is_as_if_open(self):
        for b in (mixed(2, 3, 1), mixed(4, 2, 2), mixed(1, 8, 3)):
            j = [1] * b[5]
            for n in (1, 2, 5):
                self.assertEqual(both(n, b, j), [n * len(strands_of(b))] * 2)

    def test_a_ring_may_begin_anywhere(self):
        # Two columns with breaks between them, set the other way about, are the same ring.
        first, second = [0, 2, 1], [2, 0, 0]
        level = [0, 2, 0, 1]
        one = told(2, 3, first + level)
        other = told(2, 3, second + [level[1], level[0], level[3], level[2]])
        for n in (1, 2, 3, 10, MOST):
            self.assertEqual(band(1, n, one, second), band(1, n, other, first))

    def test_the_most_copies(self):
        for b, j in sample_bands():
            zero, t, c, more = round_of(b, j)
            if (t + c) * b[4] * b[5] > 150:
                continue
            for n in (MOST, MOST - 1, 2147483648):
                rounds, rest = divmod(n - t, c)
                for ring in (0, 1):
                    expected = traced_strands(b, j, t + rest, ring == 1) + rounds * more
                    self.assertEqual(band(ring, n, b, j), [expected], (ring, n, b, j))

    def test_the_most_strands(self):
        # All broken along: as many strands as squares, more than the numbers handed in may be.
        b = plain(8, 8, 1)
        self.assertEqual(band(0, MOST, b, [1] * 8), [64 * MOST])
        self.assertEqual(band(1, MOST, b, [1] * 8), [64 * MOST])

    def test_eight_wide_and_eight_high(self):
        for b, j in ((mixed(8, 8, 1), mixed_between(8, 1)), (mixed(1, 8, 2), [2] * 8), (mixed(8, 1, 2), [0])):
            for n in (1, 2):
                expected = [traced_strands(b, j, n, False), traced_strands(b, j, n, True)]
                self.assertEqual(both(n, b, j), expected)

    def test_out_of_range(self):
        b, j = mixed(2, 3, 1), [0, 1, 2]
        for ring in (0, 1):
            self.assertEqual(band(ring, 0, b, j), [-1])
            self.assertGreater(band(ring, 1, b, j)[0], 0)
        for ring in (2, 3, MOST):
            for n in (0, 1, MOST):
                self.assertEqual(band(ring, n, b, j), [-1])

    def test_wrong_lists(self):
        for b in (told(1, 1, []), mixed(2, 3, 1), mixed(3, 2, 1), mixed(1, 8, 1)):
            for j in wrong_betweens(b[5]):
                for ring, n in ((0, 1), (1, 1), (2, 1), (0, 0), (MOST, 0)):
                    self.assertEqual(band(ring, n, b, j), [-9], (b, j))

    def test_refusals_in_their_order(self):
        right = mixed(2, 2, 1)
        for b in wrong_panels():
            for j in ([0, 0], [], [3, 3], [0] * 1024):
                for ring, n in ((0, 1), (2, 0)):
                    self.assertEqual(band(ring, n, b, j), [-6], (b, j))
        for ring, n in ((0, 1), (2, 0)):
            for b in long_bytes():
                for j in ([0], [], [3] * 1024, [0] * 1025):
                    self.assertEqual(band(ring, n, b, j), [-2])
            for b in (right, [], [0] * 1024, [0] * 1025):
                for j in ([0] * 1025, [3] * 2000):
                    self.assertEqual(band(ring, n, b, j), [-2])

    def test_nothing_is_changed_or_kept(self):
        b, j = mixed(3, 4, 5), [0, 1, 2, 0]
        before = list(b), list(j)
        for ring in (0, 1):
            for n in (1, 5, MOST):
                first = band(ring, n, b, j)
                first.append(7)
                self.assertEqual(band(ring, n, b, j), first[:-1])
        self.assertEqual((b, j), before)


if __name__ == "__main__":
    unittest.main()
