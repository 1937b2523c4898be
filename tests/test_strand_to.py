"""Promise 5: strand_to."""

import math
import unittest

from knotpanels.desk import moved, strand_to
from tests.helper import long_bytes, mixed, plain, samples, strand_moved, strands_of, told, wrong_panels


class StrandTo(unittest.TestCase):
    def test_squares_by_themselves(self):
        # All broken along: each square is a strand, and goes where it goes.
        b = plain(3, 2, 1)
        goes = {
            0: [0, 1, 2, 3, 4, 5],
            1: [1, 3, 5, 0, 2, 4],
            2: [5, 4, 3, 2, 1, 0],
            3: [4, 2, 0, 5, 3, 1],
            4: [2, 1, 0, 5, 4, 3],
            5: [5, 3, 1, 4, 2, 0],
            6: [3, 4, 5, 0, 1, 2],
            7: [0, 2, 4, 1, 3, 5],
        }
        for m in range(8):
            self.assertEqual([strand_to(m, k, b) for k in range(6)], [[k] for k in goes[m]], m)

    def test_rows_all_broken_across_upright_sides(self):
        # Two rows, each one strand round about; upside down they change.
        b = told(3, 2, [2, 2, 2, 2, 1, 1, 1])
        for m, first in enumerate([0, 1, 1, 0, 0, 1, 1, 0]):
            self.assertEqual(strand_to(m, 0, b), [first], m)
            self.assertEqual(strand_to(m, 1, b), [1 - first], m)
            self.assertEqual(strand_to(m, 2, b), [-4])

    def test_two_strands_of_one_square_beside_another(self):
        # Two squares joined across: one strand. Crossed: one strand, too.
        for kind in (0, 2):
            for m in range(8):
                self.assertEqual(strand_to(m, 0, told(2, 1, [kind])), [0])
                self.assertEqual(strand_to(m, 1, told(2, 1, [kind])), [-4])

    def test_samples_against_lines_on_paper(self):
        for b in samples():
            if b[4] * b[5] > 20:
                continue
            for m in range(8):
                for k in range(len(strands_of(b))):
                    self.assertEqual(strand_to(m, k, b), [strand_moved(b, m, k)], (m, k, b))
                self.assertEqual(strand_to(m, len(strands_of(b)), b), [-4], b)

    def test_eight_by_eight(self):
        b = mixed(8, 8, 9)
        for m in (0, 1, 6):
            for k in range(len(strands_of(b))):
                self.assertEqual(strand_to(m, k, b), [strand_moved(b, m, k)])
        full = plain(8, 8, 1)
        self.assertEqual(strand_to(0, 63, full), [63])
        self.assertEqual(strand_to(2, 63, full), [0])
        self.assertEqual(strand_to(2, 64, full), [-4])

    def test_plain_plaits(self):
        for wide in range(1, 9):
            for high in range(1, 9):
                b = plain(wide, high, 0)
                strands = math.gcd(wide, high)
                numbers = sorted(strand_to(5, k, b)[0] for k in range(strands))
                self.assertEqual(numbers, list(range(strands)))
                self.assertEqual(strand_to(5, strands, b), [-4])

    def test_there_and_back(self):
        for b in (mixed(4, 6, 1), mixed(5, 5, 2), mixed(7, 2, 3)):
            for there, back in ((0, 0), (1, 3), (2, 2), (3, 1), (4, 4), (5, 5), (6, 6), (7, 7)):
                new = moved(there, b)[1:]
                for k in range(len(strands_of(b))):
                    self.assertEqual(strand_to(back, strand_to(there, k, b)[0], new), [k])

    def test_one_square(self):
        for m in range(8):
            self.assertEqual(strand_to(m, 0, told(1, 1, [])), [0])
            self.assertEqual(strand_to(m, 1, told(1, 1, [])), [-4])

    def test_refusals_in_their_order(self):
        b = plain(2, 2, 1)
        self.assertEqual(strand_to(7, 3, b), [3])
        for k in (4, 5, 4294967295):
            self.assertEqual(strand_to(7, k, b), [-4])
            self.assertEqual(strand_to(8, k, b), [-1])
        for m in (8, 4294967295):
            self.assertEqual(strand_to(m, 0, b), [-1])
        for wrong in wrong_panels():
            for m, k in ((0, 0), (8, 0), (0, 99), (8, 99)):
                self.assertEqual(strand_to(m, k, wrong), [-6], wrong)
        for long in long_bytes():
            for m, k in ((0, 0), (8, 0), (0, 99), (8, 99)):
                self.assertEqual(strand_to(m, k, long), [-2])

    def test_nothing_is_changed_or_kept(self):
        b = mixed(3, 4, 5)
        before = list(b)
        self.assertEqual(strand_to(3, 0, b), strand_to(3, 0, b))
        self.assertEqual(b, before)


if __name__ == "__main__":
    unittest.main()
