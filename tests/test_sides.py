"""Promise 11: sides."""

import unittest

from knotpanels.desk import areas, areas_at, court, room, sides
from tests.helper import (
    all_panels, areas_on_paper, grid, kinds_on_paper, long_bytes, mixed, next_point, piece_between, piece_points,
    place_cells, plain, samples, told, wrong_panels,
)


def all_sides(b):
    return [sides(i, b) for i in range(4 * b[4] * b[5])]


def ways(b):
    """Each piece's points with what stands where it's left, that point, and the piece that follows; both ways."""
    kinds = kinds_on_paper(grid(b))
    for i in range(4 * b[4] * b[5]):
        one, other = piece_points(b[4], i)
        for before, point in ((one, other), (other, one)):
            following = frozenset((point, next_point(kinds, before, point)))
            yield frozenset((before, point)), kinds.get(point), point, following


class Sides(unittest.TestCase):
    def test_told_by_hand(self):
        self.assertEqual(all_sides(told(1, 1, [])), [[0, 0, 1]] * 4)
        self.assertEqual(all_sides(told(2, 1, [0])), [[0, 0, 2]] * 4 + [[0, 1, 2]] * 4)
        self.assertEqual(all_sides(told(1, 2, [2])), [[0, 0, 1]] * 8)
        # Two by two: the piece of each square that's about the middle lies along court 5.
        four = [[4, 5, 4, 4], [4, 4, 5, 4], [5, 4, 4, 4], [4, 4, 4, 5]]
        self.assertEqual(all_sides(plain(2, 2, 0)), [[0, s, four[s][d]] for s in range(4) for d in range(4)])
        self.assertEqual(all_sides(plain(2, 2, 1)), [[0, s, 4] for s in range(4) for d in range(4)])
        self.assertEqual(all_sides(plain(2, 2, 2)), [[0, 0, four[s][d] - 3] for s in range(4) for d in range(4)])

    def test_wider_and_higher(self):
        # Three wide: of the middle square above, the two lower corners are courts 7 and 8.
        self.assertEqual(all_sides(plain(3, 2, 0))[4:8], [[0, 1, 6], [0, 1, 8], [0, 1, 7], [0, 1, 6]])
        # Three high: of the middle square on the left, the two right corners are.
        self.assertEqual(all_sides(plain(2, 3, 0))[8:12], [[0, 2, 7], [0, 2, 8], [0, 2, 6], [0, 2, 6]])

    def test_samples_by_lines_on_paper(self):
        for b in samples(1) + list(all_panels(2, 2, 3)):
            numbers = areas_on_paper(b)
            expected = [[0] + [numbers[point] for point in piece_between(b[4], i)] for i in range(4 * b[4] * b[5])]
            self.assertEqual(all_sides(b), expected, b)

    def test_room_and_court_as_told_by_themselves(self):
        corners = [(1, 0), (1, 1), (0, 1), (0, 0)]
        for b in (mixed(4, 3, 1), mixed(3, 5, 2)):
            for i in range(4 * b[4] * b[5]):
                s, (right, lower) = i // 4, corners[i % 4]
                there = court(s % b[4] + right, s // b[4] + lower, b)
                self.assertEqual(sides(i, b), [0] + room(s, b) + there)

    def test_pieces_joined_without_a_crossing_lie_between_the_same(self):
        for b in [mixed(4, 3, seed) for seed in range(6)] + [mixed(3, 5, 1), mixed(1, 8, 2), mixed(8, 1, 3)]:
            lies = {piece_points(b[4], i): found for i, found in enumerate(all_sides(b))}
            for piece, kind, point, following in ways(b):
                if kind != 0:
                    self.assertEqual(lies[piece], lies[following], b)

    def test_pieces_at_a_crossing_lie_between_its_areas(self):
        for b in (mixed(4, 3, 1), mixed(3, 5, 2), plain(3, 3, 0)):
            lies = {piece_points(b[4], i): found for i, found in enumerate(all_sides(b))}
            place = {(column + 1, row + 1): p for p, (row, column) in enumerate(place_cells(b[4], b[5]))}
            for piece, kind, point, following in ways(b):
                if kind == 0:
                    four = areas_at(place[point], b)
                    # Straight on, both are changed: to the other room and the other court.
                    self.assertEqual(sorted((lies[piece][1], lies[following][1])), sorted(four[1:3]))
                    self.assertEqual(sorted((lies[piece][2], lies[following][2])), sorted(four[3:]))

    def test_a_room_and_a_court(self):
        for b in samples(1):
            found, rooms, courts = areas(b)
            for pair in all_sides(b):
                self.assertLess(pair[1], rooms)
                self.assertTrue(rooms <= pair[2] < found)

    def test_no_such_piece(self):
        for wide, high in ((1, 1), (3, 2), (2, 3), (8, 8), (1, 8)):
            b = plain(wide, high, 1)
            pieces = 4 * wide * high
            self.assertEqual(sides(pieces - 1, b), [0, wide * high - 1, wide * high])
            for i in (pieces, pieces + 1, 4294967295):
                self.assertEqual(sides(i, b), [-4])

    def test_refusals_in_their_order(self):
        for b in wrong_panels():
            for i in (0, 256, 4294967295):
                self.assertEqual(sides(i, b), [-6], b)
        for b in long_bytes():
            for i in (0, 4294967295):
                self.assertEqual(sides(i, b), [-2])

    def test_nothing_is_changed_or_kept(self):
        b = mixed(3, 4, 5)
        before = list(b)
        first = sides(9, b)
        first.append(7)
        self.assertEqual(sides(9, b), first[:-1])
        self.assertEqual(all_sides(b), all_sides(b))
        self.assertEqual(b, before)


if __name__ == "__main__":
    unittest.main()
