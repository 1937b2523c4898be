"""Promise 10: area."""

import unittest

from knotpanels.desk import area, areas
from tests.helper import (
    all_panels, areas_on_paper, courts_of, long_bytes, mixed, piece_between, plain, rooms_of, samples, told,
    wrong_panels,
)


def all_areas(b):
    return [area(a, b) for a in range(areas(b)[0])]


def expected_areas(b):
    """All areas, by squares and corners and by pieces as lines on paper."""
    numbers = areas_on_paper(b)
    along = [0] * (max(numbers.values()) + 1)
    for i in range(4 * b[4] * b[5]):
        for point in piece_between(b[4], i):
            along[numbers[point]] += 1
    rooms = rooms_of(b)
    members = [len(squares) for squares in rooms] + [len(corners) for corners in courts_of(b)]
    return [[0, 0 if a < len(rooms) else 1, along[a], members[a]] for a in range(len(members))]


class Area(unittest.TestCase):
    def test_told_by_hand(self):
        self.assertEqual(all_areas(told(1, 1, [])), [[0, 0, 4, 1], [0, 1, 4, 4]])
        # Two crossed squares: the outside has all six corners and all eight pieces.
        self.assertEqual(all_areas(told(2, 1, [0])), [[0, 0, 4, 1], [0, 0, 4, 1], [0, 1, 8, 6]])
        # Broken across they're one room.
        self.assertEqual(all_areas(told(2, 1, [2])), [[0, 0, 8, 2], [0, 1, 8, 6]])
        # Two by two: about the corner within lie four pieces, about the outside twelve.
        self.assertEqual(all_areas(plain(2, 2, 0)), [[0, 0, 4, 1]] * 4 + [[0, 1, 12, 8], [0, 1, 4, 1]])
        self.assertEqual(all_areas(plain(2, 2, 1)), [[0, 0, 4, 1]] * 4 + [[0, 1, 16, 9]])
        self.assertEqual(all_areas(plain(2, 2, 2)), [[0, 0, 16, 4], [0, 1, 12, 8], [0, 1, 4, 1]])

    def test_one_wide_and_one_high(self):
        self.assertEqual(all_areas(told(4, 1, [2, 1, 0])), [[0, 0, 8, 2], [0, 0, 4, 1], [0, 0, 4, 1], [0, 1, 16, 10]])
        self.assertEqual(all_areas(told(1, 4, [0, 2, 2])), [[0, 0, 4, 1], [0, 0, 12, 3], [0, 1, 16, 10]])

    def test_a_court_within(self):
        # Three by three, breaks along round the middle square: a court of four corners.
        stands = [0] * 12
        for place in (2, 3, 7, 10):
            stands[place] = 1
        self.assertEqual(all_areas(told(3, 3, stands)), [[0, 0, 4, 1]] * 9 + [[0, 1, 20, 12], [0, 1, 16, 4]])

    def test_eight_by_eight(self):
        self.assertEqual(all_areas(plain(8, 8, 0)), [[0, 0, 4, 1]] * 64 + [[0, 1, 60, 32]] + [[0, 1, 4, 1]] * 49)
        self.assertEqual(all_areas(plain(8, 8, 1)), [[0, 0, 4, 1]] * 64 + [[0, 1, 256, 81]])
        self.assertEqual(all_areas(plain(8, 8, 2)), [[0, 0, 256, 64], [0, 1, 60, 32]] + [[0, 1, 4, 1]] * 49)

    def test_samples_by_lines_on_paper(self):
        for b in samples(2) + list(all_panels(2, 2, 3)):
            self.assertEqual(all_areas(b), expected_areas(b), b)

    def test_pieces_along_all_come_to_twice_as_many(self):
        for b in samples(2) + list(all_panels(3, 2, 2)):
            told_areas = all_areas(b)
            rooms = [found for found in told_areas if found[1] == 0]
            courts = [found for found in told_areas if found[1] == 1]
            pieces = 4 * b[4] * b[5]
            self.assertEqual(sum(found[2] for found in told_areas), 2 * pieces, b)
            self.assertEqual(sum(found[2] for found in rooms), pieces, b)
            self.assertEqual(sum(found[2] for found in courts), pieces, b)
            self.assertEqual(sum(found[3] for found in rooms), b[4] * b[5])
            self.assertEqual(sum(found[3] for found in courts), (b[4] + 1) * (b[5] + 1))
            self.assertEqual([len(rooms), len(courts)], areas(b)[1:])

    def test_no_such_area(self):
        for b in (told(1, 1, []), plain(3, 2, 0), plain(8, 8, 2), mixed(8, 8, 3), mixed(1, 8, 1)):
            there = areas(b)[0]
            self.assertEqual(area(there - 1, b)[:2], [0, 1])
            for a in (there, there + 1, 4294967295):
                self.assertEqual(area(a, b), [-4])

    def test_refusals_in_their_order(self):
        for b in wrong_panels():
            for a in (0, 200, 4294967295):
                self.assertEqual(area(a, b), [-6], b)
        for b in long_bytes():
            for a in (0, 4294967295):
                self.assertEqual(area(a, b), [-2])

    def test_nothing_is_changed_or_kept(self):
        b = mixed(3, 4, 5)
        before = list(b)
        first = area(0, b)
        first.append(7)
        self.assertEqual(area(0, b), first[:-1])
        self.assertEqual(all_areas(b), all_areas(b))
        self.assertEqual(b, before)


if __name__ == "__main__":
    unittest.main()
