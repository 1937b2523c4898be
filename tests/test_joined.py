"""How ends are joined: at the border, at crossings and at both breaks."""

import unittest

from knotpanels.panels import read_panel
from knotpanels.strands import joined_end
from tests.helper import plain, samples, told


def joined(b):
    panel = read_panel(b)
    return [joined_end(panel, e) for e in range(8 * b[4] * b[5])]


class Joined(unittest.TestCase):
    def test_one_square(self):
        self.assertEqual(joined(told(1, 1, [])), [7, 2, 1, 4, 3, 6, 5, 0])

    def test_two_squares(self):
        # Ends 1 and 2 are at the left square's right side, 13 and 14 at the right one's left.
        border = {0: 7, 3: 4, 5: 6, 8: 15, 9: 10, 11: 12}
        inner = {0: {1: 13, 2: 14}, 1: {1: 2, 13: 14}, 2: {1: 14, 2: 13}}
        for kind in range(3):
            expected = [None] * 16
            for one, other in (border | inner[kind]).items():
                expected[one], expected[other] = other, one
            self.assertEqual(joined(told(2, 1, [kind])), expected, kind)

    def test_joined_two_by_two(self):
        for b in samples() + [plain(2, 2, kind) for kind in range(3)]:
            ends = joined(b)
            for e, other in enumerate(ends):
                self.assertNotEqual(e, other)
                self.assertEqual(ends[other], e)


if __name__ == "__main__":
    unittest.main()
