"""Promise 6: count."""

import unittest

from knotpanels.desk import count, form
from tests.helper import all_panels, moved_by, moved_grid, place_cells

SMALL = [
    (1, 1, 3), (1, 2, 3), (2, 1, 3), (1, 3, 3), (3, 1, 3), (1, 6, 3), (6, 1, 3), (8, 1, 2), (1, 8, 2),
    (2, 2, 3), (2, 3, 3), (3, 2, 3), (2, 4, 2), (4, 2, 2), (3, 3, 2),
]


def answer(number):
    """What's told of a number: how many bytes, and they, the lowest first."""
    told = list(number.to_bytes((number.bit_length() + 7) // 8, "little"))
    return [len(told)] + told


def rounds(wide, high, m):
    """How many rounds of places there are that motion m takes to one another."""
    rows = [[None] * (2 * wide - 1) for row in range(2 * high - 1)]
    for number, (row, column) in enumerate(place_cells(wide, high)):
        rows[row][column] = number
    new = moved_grid(rows, m)
    goes = {new[row][column]: rows[row][column] for row, column in place_cells(wide, high)}
    found, seen = 0, set()
    for place in goes:
        found += place not in seen
        while place not in seen:
            seen.add(place)
            place = goes[place]
    return found


class Count(unittest.TestCase):
    def test_told_by_hand(self):
        # No place; one place; two places in a row; four round a square.
        self.assertEqual([count(1, 1, k) for k in (1, 2, 3)], [[1, 1], [1, 1], [1, 1]])
        self.assertEqual([count(2, 1, k) for k in (1, 2, 3)], [[1, 1], [1, 2], [1, 3]])
        self.assertEqual([count(1, 3, k) for k in (1, 2, 3)], [[1, 1], [1, 3], [1, 6]])
        self.assertEqual([count(2, 2, k) for k in (1, 2, 3)], [[1, 1], [1, 6], [1, 21]])

    def test_small_sizes_gone_through_one_by_one(self):
        for wide, high, most in SMALL:
            for kinds in range(1, most + 1):
                least = {tuple(min(moved_by(b, m) for m in range(8))) for b in all_panels(wide, high, kinds)}
                self.assertEqual(count(wide, high, kinds), answer(len(least)), (wide, high, kinds))

    def test_as_many_as_least_forms(self):
        for wide, high in ((2, 2), (2, 3), (4, 1)):
            forms = {tuple(form(b)[2:]) for b in all_panels(wide, high, 3)}
            self.assertEqual(count(wide, high, 3), answer(len(forms)))

    def test_all_sizes_by_rounds_of_places(self):
        for wide in range(1, 9):
            for high in range(1, 9):
                motions = range(8) if wide == high else (0, 2, 4, 6)
                for kinds in (1, 2, 3):
                    kept = sum(kinds ** rounds(wide, high, m) for m in motions)
                    self.assertEqual(kept % len(motions), 0)
                    self.assertEqual(count(wide, high, kinds), answer(kept // len(motions)), (wide, high, kinds))

    def test_eight_by_eight(self):
        # Rounds of the 112 places: by turns 112, 28, 56, 28, by mirrors 60, 56, 60, 56.
        number = (3 ** 112 + 2 * 3 ** 28 + 3 * 3 ** 56 + 2 * 3 ** 60) // 8
        self.assertEqual(count(8, 8, 3), answer(number))
        self.assertEqual(count(8, 8, 3)[0], 22)
        self.assertEqual(len(count(8, 8, 3)), 23)
        self.assertEqual(count(8, 8, 1), [1, 1])

    def test_no_nought_at_the_end(self):
        for wide in range(1, 9):
            for high in range(1, 9):
                told = count(wide, high, 3)
                self.assertEqual(told[0], len(told) - 1)
                self.assertNotEqual(told[-1], 0)
                self.assertTrue(all(0 <= byte <= 255 for byte in told[1:]))

    def test_out_of_range(self):
        self.assertEqual(count(8, 1, 1), [1, 1])
        self.assertEqual(count(1, 8, 1), [1, 1])
        for wrong in (0, 9, 4294967295):
            self.assertEqual(count(wrong, 2, 2), [-1])
            self.assertEqual(count(2, wrong, 2), [-1])
            self.assertEqual(count(wrong, wrong, wrong), [-1])
        for kinds in (0, 4, 4294967295):
            self.assertEqual(count(2, 2, kinds), [-1])
            self.assertEqual(count(1, 1, kinds), [-1])

    def test_nothing_is_kept(self):
        first = count(5, 4, 3)
        first.append(7)
        self.assertEqual(count(5, 4, 3), first[:-1])


if __name__ == "__main__":
    unittest.main()
