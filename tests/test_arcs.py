"""Promise 14: arcs."""

import unittest

from knotpanels.desk import arcs, band, band_panel, round_of
from tests.helper import (
    all_panels, behind, long_bytes, mixed, mixed_between, plain, sample_bands, told, traced_arcs, wrong_betweens,
    wrong_panels,
)

MOST = 4294967295


class Arcs(unittest.TestCase):
    def test_one_square(self):
        # The strand that begins at the left goes over to the one that ends at the right.
        square = told(1, 1, [])
        self.assertEqual(arcs(1, square, [0]), [0, 3, 2, 1, 0])
        self.assertEqual(arcs(2, square, [0]), [0, 2, 3, 0, 1])
        self.assertEqual(arcs(3, square, [0]), [0, 3, 2, 1, 0])
        self.assertEqual(arcs(5, square, [2]), [0, 3, 2, 1, 0])
        # Broken along: turned back at either side, and each square within is closed.
        self.assertEqual(arcs(1, square, [1]), [0, 3, 2, 1, 0])
        self.assertEqual(arcs(2, square, [1]), [0, 1, 0, 3, 2])
        self.assertEqual(arcs(3, square, [1]), [1, 1, 0, 3, 2])
        self.assertEqual(arcs(MOST, square, [1]), [MOST - 2, 1, 0, 3, 2])

    def test_two_rows(self):
        # Rows apart: each leads over by itself.
        self.assertEqual(arcs(1, told(1, 2, [1]), [0, 0]), [0, 5, 4, 7, 6, 1, 0, 3, 2])
        # Crossed: what falls from the upper row's left comes to the lower row's right, and the other way.
        self.assertEqual(arcs(1, told(1, 2, [0]), [0, 0]), [0, 5, 7, 4, 6, 2, 0, 3, 1])
        # Broken across: turned back between the rows on both sides.
        self.assertEqual(arcs(1, told(1, 2, [2]), [0, 0]), [0, 5, 2, 1, 6, 7, 0, 3, 4])

    def test_between_is_not_of_one_copy(self):
        for b in (mixed(3, 2, 1), mixed(2, 2, 2)):
            self.assertEqual(arcs(1, b, [0, 0]), arcs(1, b, [1, 2]))

    def test_against_lines_followed(self):
        for b, j in sample_bands():
            for n in (1, 2, 3, 4, 7):
                if n * b[4] * b[5] <= 200:
                    self.assertEqual(arcs(n, b, j), traced_arcs(b, j, n), (n, b, j))

    def test_all_small_units(self):
        for b in all_panels(2, 2, 3):
            for j in ([0, 0], [0, 1], [2, 0], [1, 2], [2, 2]):
                self.assertEqual(arcs(3, b, j), traced_arcs(b, j, 3), (b, j))

    def test_wider_than_eight(self):
        for b, j in ((mixed(3, 2, 1), [0, 2]), (mixed(2, 3, 4), [1, 0, 0]), (plain(1, 4, 0), [0, 2, 0, 0])):
            for n in (19, 32, 45):
                self.assertEqual(arcs(n, b, j), traced_arcs(b, j, n), (n, b, j))

    def test_of_the_panel_of_copies(self):
        for b, j in sample_bands():
            for n in range(1, 8 // b[4] + 1):
                self.assertEqual(arcs(n, b, j), arcs(1, band_panel(n, b, j)[1:], j))

    def test_put_one_behind_another(self):
        for b, j in ((mixed(3, 2, 1), [0, 2]), (mixed(2, 3, 4), [1, 0, 2]), (mixed(4, 5, 3), mixed_between(5, 3))):
            told_arcs = [None] + [arcs(n, b, j) for n in range(1, 10)]
            for first in range(1, 9):
                for second in range(1, 10 - first):
                    put = behind(told_arcs[first], told_arcs[second], j)
                    self.assertEqual(put, told_arcs[first + second], (first, second, b, j))

    def test_put_behind_the_most(self):
        for b, j in ((mixed(3, 2, 1), [0, 2]), (plain(1, 8, 0), [0, 0, 0, 2, 0, 2, 0, 0]), (plain(2, 3, 1), [0, 2, 0])):
            most = arcs(MOST, b, j)
            self.assertEqual(behind(arcs(MOST - 1, b, j), arcs(1, b, j), j), most)
            self.assertEqual(behind(arcs(1, b, j), arcs(MOST - 1, b, j), j), most)
            self.assertEqual(behind(arcs(2147483647, b, j), arcs(2147483648, b, j), j), most)

    def test_the_most_copies_by_what_comes_round(self):
        for b, j in sample_bands():
            zero, t, c, more = round_of(b, j)
            rounds, rest = divmod(MOST - t, c)
            near = arcs(t + rest, b, j)
            self.assertEqual(arcs(MOST, b, j), [near[0] + rounds * more] + near[1:], (b, j))

    def test_joined_two_by_two(self):
        for b, j in sample_bands():
            for n in (1, 2, MOST):
                joined = arcs(n, b, j)[1:]
                self.assertEqual(len(joined), 4 * b[5])
                for point, other in enumerate(joined):
                    self.assertNotEqual(point, other)
                    self.assertEqual(joined[other], point)

    def test_copies_that_nothing_leads_between(self):
        # Each copy that's neither the first nor the last closes all its strands.
        b = mixed(3, 4, 2)
        j = [1] * 4
        once = band(0, 1, b, j)[0]
        self.assertEqual(arcs(12, b, j)[0] - arcs(11, b, j)[0], once)

    def test_eight_wide_and_eight_high(self):
        for b, j in ((mixed(8, 8, 1), mixed_between(8, 1)), (plain(8, 8, 1), [1] * 8), (plain(8, 8, 0), [0] * 8)):
            for n in (1, 2):
                self.assertEqual(arcs(n, b, j), traced_arcs(b, j, n))
        self.assertEqual(arcs(MOST, plain(8, 8, 1), [1] * 8)[0], 64 * MOST - 16)

    def test_no_copies(self):
        b, j = mixed(2, 3, 1), [0, 1, 2]
        self.assertEqual(arcs(0, b, j), [-1])
        self.assertGreaterEqual(arcs(1, b, j)[0], 0)

    def test_wrong_lists(self):
        for b in (told(1, 1, []), mixed(2, 3, 1), mixed(3, 2, 1), mixed(1, 8, 1)):
            for j in wrong_betweens(b[5]):
                for n in (0, 1, MOST):
                    self.assertEqual(arcs(n, b, j), [-9], (b, j))

    def test_refusals_in_their_order(self):
        right = mixed(2, 2, 1)
        for n in (0, 1):
            for b in wrong_panels():
                for j in ([0, 0], [], [3, 3], [0] * 1024):
                    self.assertEqual(arcs(n, b, j), [-6], (b, j))
            for b in long_bytes():
                for j in ([0], [], [3] * 1024, [0] * 1025):
                    self.assertEqual(arcs(n, b, j), [-2])
            for b in (right, [], [0] * 1024, [0] * 1025):
                for j in ([0] * 1025, [3] * 2000):
                    self.assertEqual(arcs(n, b, j), [-2])

    def test_nothing_is_changed_or_kept(self):
        b, j = mixed(3, 4, 5), [0, 1, 2, 0]
        before = list(b), list(j)
        for n in (1, 2, 5, MOST):
            first = arcs(n, b, j)
            first[1] = 99
            self.assertEqual(arcs(n, b, j)[2:], first[2:])
            self.assertEqual(arcs(n, b, j), arcs(n, b, j))
            self.assertNotEqual(arcs(n, b, j), first)
        self.assertEqual((b, j), before)


if __name__ == "__main__":
    unittest.main()
