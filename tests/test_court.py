"""Promise 9: court."""

import unittest

from knotpanels.desk import areas, court
from tests.helper import all_panels, courts_of, long_bytes, mixed, plain, rooms_of, samples, told, wrong_panels


def courts(b):
    """The courts of all corners, a row for each row line."""
    return [[court(x, y, b)[0] for x in range(b[4] + 1)] for y in range(b[5] + 1)]


def fenced():
    """Three by three, crossings but for breaks along round the middle square."""
    stands = [0] * 12
    for place in (2, 3, 7, 10):
        stands[place] = 1
    return told(3, 3, stands)


class Court(unittest.TestCase):
    def test_told_by_hand(self):
        # One square is a room; all its corners are of the outside.
        self.assertEqual(courts(told(1, 1, [])), [[1, 1], [1, 1]])
        # Six rooms ahead of the courts; two corners within, each by itself.
        self.assertEqual(courts(plain(3, 2, 0)), [[6, 6, 6, 6], [6, 7, 8, 6], [6, 6, 6, 6]])
        self.assertEqual(courts(plain(2, 3, 0)), [[6, 6, 6], [6, 7, 6], [6, 8, 6], [6, 6, 6]])
        # All broken along: all corners hang together.
        self.assertEqual(courts(plain(3, 2, 1)), [[6] * 4] * 3)
        # All broken across: one room alone is ahead of the courts.
        self.assertEqual(courts(plain(3, 2, 2)), [[1, 1, 1, 1], [1, 2, 3, 1], [1, 1, 1, 1]])

    def test_one_wide_and_one_high(self):
        # Breaks across put rooms together, so fewer are ahead of the outside.
        self.assertEqual(courts(told(4, 1, [2, 1, 0])), [[3] * 5] * 2)
        self.assertEqual(courts(told(1, 4, [2, 2, 0])), [[2, 2]] * 5)

    def test_a_court_within(self):
        # Its four corners are one court and don't reach the border.
        self.assertEqual(courts(fenced()), [[9, 9, 9, 9], [9, 10, 10, 9], [9, 10, 10, 9], [9, 9, 9, 9]])
        # One break along to the border, and it's the outside.
        b = fenced()
        b[6] = 1
        self.assertEqual(courts(b), [[9] * 4] * 4)
        # A break across there does nothing of the kind.
        b[6] = 2
        self.assertEqual(courts(b), [[8, 8, 8, 8], [8, 9, 9, 8], [8, 9, 9, 8], [8, 8, 8, 8]])

    def test_numbered_by_least_corners(self):
        # Upright places 0 .. 8, level ones 9 .. 16 of four by three; corner (3, 2) hangs together with (1, 1)
        # round below, (2, 1) and (3, 1) come between them.
        stands = [0] * 17
        stands[3] = 1
        stands[14] = 1
        stands[15] = 1
        b = told(4, 3, stands)
        self.assertEqual(courts(b)[1:3], [[12, 13, 14, 15, 12], [12, 13, 13, 13, 12]])

    def test_samples_by_corners(self):
        for b in samples(2) + list(all_panels(2, 2, 3)):
            rooms = len(rooms_of(b))
            for number, corners in enumerate(courts_of(b)):
                for x, y in corners:
                    self.assertEqual(court(x, y, b), [rooms + number], (x, y, b))

    def test_eight_by_eight(self):
        b = plain(8, 8, 0)
        told_courts = courts(b)
        self.assertEqual(told_courts[0], [64] * 9)
        self.assertEqual(told_courts[1], [64, 65, 66, 67, 68, 69, 70, 71, 64])
        self.assertEqual(told_courts[7], [64, 107, 108, 109, 110, 111, 112, 113, 64])
        self.assertEqual(court(8, 8, b), [64])
        self.assertEqual(court(7, 7, b), [areas(b)[0] - 1])

    def test_no_such_corner(self):
        for wide, high in ((1, 1), (3, 2), (2, 3), (8, 8), (1, 8), (8, 1)):
            b = plain(wide, high, 1)
            outside = [wide * high]
            self.assertEqual(court(wide, high, b), outside)
            self.assertEqual(court(wide, 0, b), outside)
            self.assertEqual(court(0, high, b), outside)
            for over in (1, 2, 4294967295 - 8):
                self.assertEqual(court(wide + over, 0, b), [-4])
                self.assertEqual(court(0, high + over, b), [-4])
                self.assertEqual(court(wide + over, high + over, b), [-4])
            self.assertEqual(court(4294967295, high, b), [-4])
            self.assertEqual(court(wide, 4294967295, b), [-4])

    def test_refusals_in_their_order(self):
        for b in wrong_panels():
            for x, y in ((0, 0), (9, 0), (0, 9), (4294967295, 4294967295)):
                self.assertEqual(court(x, y, b), [-6], b)
        for b in long_bytes():
            for x, y in ((0, 0), (4294967295, 4294967295)):
                self.assertEqual(court(x, y, b), [-2])

    def test_nothing_is_changed_or_kept(self):
        b = mixed(3, 4, 5)
        before = list(b)
        first = court(1, 2, b)
        first.append(7)
        self.assertEqual(court(1, 2, b), first[:-1])
        self.assertEqual(courts(b), courts(b))
        self.assertEqual(b, before)


if __name__ == "__main__":
    unittest.main()
