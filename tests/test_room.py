"""Promise 8: room."""

import unittest

from knotpanels.desk import areas, room
from tests.helper import all_panels, long_bytes, mixed, plain, rooms_of, samples, told, wrong_panels


def rooms(b):
    return [room(s, b) for s in range(b[4] * b[5])]


def snake(wide, high):
    """A panel whose squares hang together in one line, row by row, there and back."""
    level = []
    for y in range(high - 1):
        level += [2 if x == (wide - 1 if y % 2 == 0 else 0) else 1 for x in range(wide)]
    return told(wide, high, [2] * ((wide - 1) * high) + level)


class Room(unittest.TestCase):
    def test_told_by_hand(self):
        self.assertEqual(rooms(told(1, 1, [])), [[0]])
        self.assertEqual(rooms(plain(3, 2, 0)), [[0], [1], [2], [3], [4], [5]])
        self.assertEqual(rooms(plain(3, 2, 1)), [[0], [1], [2], [3], [4], [5]])
        self.assertEqual(rooms(plain(3, 2, 2)), [[0]] * 6)
        self.assertEqual(rooms(told(5, 1, [2, 0, 1, 2])), [[0], [0], [1], [2], [2]])
        self.assertEqual(rooms(told(1, 5, [0, 2, 2, 1])), [[0], [1], [1], [1], [2]])

    def test_numbered_by_least_squares(self):
        # Square 3 hangs together with 0, square 4 with 1: no new numbers for them.
        self.assertEqual(rooms(told(3, 2, [0, 0, 0, 0, 2, 2, 0])), [[0], [1], [2], [0], [1], [3]])
        # Square 2 with 0 round below, about square 1.
        b = told(3, 2, [1, 0, 2, 2, 2, 1, 2])
        self.assertEqual(rooms(b), [[0], [1], [0], [0], [0], [0]])

    def test_a_long_way_round(self):
        for wide, high in ((8, 8), (2, 8), (8, 2), (5, 7)):
            b = snake(wide, high)
            self.assertEqual(rooms(b), [[0]] * (wide * high))
        # Once cut, the way is two rooms.
        b = snake(8, 8)
        b[6 + 7 * 3 + 4] = 0
        first = [s for s in range(64) if room(s, b) == [0]]
        self.assertEqual(first, list(range(24)) + [29, 30, 31])
        self.assertEqual(areas(b)[1], 2)

    def test_samples_by_squares(self):
        for b in samples() + list(all_panels(2, 2, 3)):
            for number, squares in enumerate(rooms_of(b)):
                for s in squares:
                    self.assertEqual(room(s, b), [number], (s, b))

    def test_no_such_square(self):
        for wide, high in ((1, 1), (3, 2), (8, 8), (1, 8)):
            b = plain(wide, high, 2)
            self.assertEqual(room(wide * high - 1, b), [0])
            for s in (wide * high, wide * high + 1, 4294967295):
                self.assertEqual(room(s, b), [-4])

    def test_refusals_in_their_order(self):
        for b in wrong_panels():
            for s in (0, 64, 4294967295):
                self.assertEqual(room(s, b), [-6], b)
        for b in long_bytes():
            for s in (0, 4294967295):
                self.assertEqual(room(s, b), [-2])

    def test_nothing_is_changed_or_kept(self):
        b = mixed(3, 4, 5)
        before = list(b)
        self.assertEqual(rooms(b), rooms(b))
        self.assertEqual(b, before)


if __name__ == "__main__":
    unittest.main()
