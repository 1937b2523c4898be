"""Promise 12: areas_at."""

import unittest

from knotpanels.desk import areas_at
from tests.helper import (
    all_panels, areas_on_paper, long_bytes, mixed, place_cells, plain, samples, told, wrong_panels,
)


def all_areas_at(b):
    return [areas_at(p, b) for p in range(len(b) - 6)]


def expected_at(b):
    """The areas about every side's middle, as points on paper; -5 where no crossing stands."""
    numbers = areas_on_paper(b)
    expected = []
    for (row, column), kind in zip(place_cells(b[4], b[5]), b[6:]):
        x, y = column + 1, row + 1
        level = [(x - 1, y), (x + 1, y)]
        upright = [(x, y - 1), (x, y + 1)]
        points = level + upright if row % 2 == 0 else upright + level
        expected.append([0] + [numbers[point] for point in points] if kind == 0 else [-5])
    return expected


class AreasAt(unittest.TestCase):
    def test_told_by_hand(self):
        self.assertEqual(all_areas_at(told(2, 1, [0])), [[0, 0, 1, 2, 2]])
        self.assertEqual(all_areas_at(told(1, 2, [0])), [[0, 0, 1, 2, 2]])
        # Two by two: the outside is 4, the corner within 5.
        four = [[0, 0, 1, 4, 5], [0, 2, 3, 5, 4], [0, 0, 2, 4, 5], [0, 1, 3, 5, 4]]
        self.assertEqual(all_areas_at(plain(2, 2, 0)), four)

    def test_wider_and_higher(self):
        wider = [
            [0, 0, 1, 6, 7], [0, 1, 2, 6, 8], [0, 3, 4, 7, 6], [0, 4, 5, 8, 6],
            [0, 0, 3, 6, 7], [0, 1, 4, 7, 8], [0, 2, 5, 8, 6],
        ]
        self.assertEqual(all_areas_at(plain(3, 2, 0)), wider)
        higher = [
            [0, 0, 1, 6, 7], [0, 2, 3, 7, 8], [0, 4, 5, 8, 6],
            [0, 0, 2, 6, 7], [0, 1, 3, 7, 6], [0, 2, 4, 6, 8], [0, 3, 5, 8, 6],
        ]
        self.assertEqual(all_areas_at(plain(2, 3, 0)), higher)

    def test_all_kinds_of_places(self):
        # Upright 0 1 / 2 0, level 0 0 1: squares 3 and 4 are one room; corners (2, 0), (2, 1) and (3, 1) the outside.
        b = told(3, 2, [0, 1, 2, 0, 0, 0, 1])
        expected = [[0, 0, 1, 5, 6], [-5], [-5], [0, 3, 4, 5, 5], [0, 0, 3, 5, 6], [0, 1, 3, 6, 5], [-5]]
        self.assertEqual(all_areas_at(b), expected)

    def test_one_room_on_either_side(self):
        # Three squares hang together about the crossing between the upper two.
        self.assertEqual(areas_at(0, told(2, 2, [0, 2, 2, 2])), [0, 0, 0, 1, 2])
        # Breaks along lead from both its ends to the border.
        self.assertEqual(areas_at(0, told(2, 2, [0, 0, 1, 0])), [0, 0, 1, 4, 4])

    def test_a_court_within(self):
        # Three by three, breaks along round the middle square: court 10, not of the outside.
        stands = [0] * 12
        for place in (2, 3, 7, 10):
            stands[place] = 1
        b = told(3, 3, stands)
        self.assertEqual(areas_at(0, b), [0, 0, 1, 9, 10])
        self.assertEqual(areas_at(2, b), [-5])
        self.assertEqual(areas_at(6, b), [0, 0, 3, 9, 10])
        self.assertEqual(areas_at(11, b), [0, 5, 8, 10, 9])

    def test_samples_by_points_on_paper(self):
        for b in samples(2) + list(all_panels(2, 2, 3)) + [mixed(2, 7, 1), mixed(7, 2, 1)]:
            self.assertEqual(all_areas_at(b), expected_at(b), b)

    def test_breaks_alone(self):
        for wide, high in ((3, 2), (1, 8), (8, 8)):
            for kind in (1, 2):
                b = plain(wide, high, kind)
                for p in (0, len(b) - 7):
                    self.assertEqual(areas_at(p, b), [-5])

    def test_no_such_place(self):
        self.assertEqual(areas_at(0, told(1, 1, [])), [-4])
        for wide, high in ((2, 1), (1, 2), (3, 2), (8, 8), (1, 8)):
            for kind in range(3):
                b = plain(wide, high, kind)
                there = len(b) - 6
                self.assertEqual(areas_at(there - 1, b)[0], 0 if kind == 0 else -5)
                for p in (there, there + 1, 4294967295):
                    self.assertEqual(areas_at(p, b), [-4])

    def test_eight_by_eight(self):
        b = plain(8, 8, 0)
        self.assertEqual(areas_at(0, b), [0, 0, 1, 64, 65])
        self.assertEqual(areas_at(55, b), [0, 62, 63, 113, 64])
        self.assertEqual(areas_at(56, b), [0, 0, 8, 64, 65])
        self.assertEqual(areas_at(111, b), [0, 55, 63, 113, 64])

    def test_refusals_in_their_order(self):
        for b in wrong_panels():
            for p in (0, 1, 112, 4294967295):
                self.assertEqual(areas_at(p, b), [-6], b)
        for b in long_bytes():
            for p in (0, 4294967295):
                self.assertEqual(areas_at(p, b), [-2])

    def test_nothing_is_changed_or_kept(self):
        b = mixed(3, 4, 5)
        before = list(b)
        p = b[6:].index(0)
        first = areas_at(p, b)
        first.append(7)
        self.assertEqual(areas_at(p, b), first[:-1])
        self.assertEqual(all_areas_at(b), all_areas_at(b))
        self.assertEqual(b, before)


if __name__ == "__main__":
    unittest.main()
