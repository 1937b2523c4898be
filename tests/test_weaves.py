"""What strands pass along their courses, and whether they're over there."""

import unittest

from knotpanels.panels import read_panel
from knotpanels.strands import course_ends, crossing_strands, strand_numbers
from knotpanels.weaves import overs_on
from tests.helper import (
    courses_on_paper, drawing_of, grid, kinds_on_paper, mixed, place_cells, plain, sample_cards, samples, strands_of,
    told,
)


def least_pieces(b):
    numbers = strand_numbers(read_panel(b))
    return [numbers.index(k) for k in range(max(numbers) + 1)]


class Weaves(unittest.TestCase):
    def test_courses_by_hand(self):
        # One square: piece by piece; two squares crossed: through the crossing, back along the border, and through it.
        self.assertEqual(course_ends(read_panel(told(1, 1, [])), 0), [1, 3, 5, 7])
        self.assertEqual(course_ends(read_panel(told(2, 1, [0])), 0), [1, 12, 10, 8, 14, 3, 5, 7])

    def test_over_and_under_by_hand(self):
        # With bit 0 the piece that ends there is over, with bit 1 the one that begins there.
        self.assertEqual(overs_on(read_panel(told(2, 1, [0])), [0], 0), [True, False])
        self.assertEqual(overs_on(read_panel(told(2, 1, [0])), [1], 0), [False, True])
        self.assertEqual(overs_on(read_panel(told(3, 1, [0, 0])), [0, 1], 0), [True, True, False, False])

    def test_overs_by_lines_on_paper(self):
        for b, w in sample_cards():
            expected = [[over for point, over in passed] for passed in courses_on_paper(drawing_of(b, w))]
            self.assertEqual([overs_on(read_panel(b), w, i) for i in least_pieces(b)], expected)

    def test_the_two_strands_of_a_crossing(self):
        self.assertEqual(crossing_strands(read_panel(plain(2, 2, 0))), [(1, 0), (1, 0), (0, 1), (0, 1)])
        for b in samples(3) + [mixed(7, 3, 2), mixed(3, 7, 2)]:
            strands, wide = strands_of(b), b[4]
            expected = []
            for row, column in place_cells(wide, b[5]):
                point = (column + 1, row + 1)
                if kinds_on_paper(grid(b))[point] == 0:
                    # The piece of the left or upper square that begins at the side leads on clockwise from it.
                    begins = (point[0] - 1, point[1] + 1) if row % 2 == 0 else (point[0] - 1, point[1] - 1)
                    ends = (point[0] - 1, point[1] - 1) if row % 2 == 0 else (point[0] + 1, point[1] - 1)
                    pair = [frozenset((point, begins)), frozenset((point, ends))]
                    expected.append(tuple(n for piece in pair for n, strand in enumerate(strands) if piece in strand))
            self.assertEqual(crossing_strands(read_panel(b)), expected)


if __name__ == "__main__":
    unittest.main()
