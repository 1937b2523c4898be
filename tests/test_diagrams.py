"""Diagrams put one behind another: in whatever order that's done, they're the same."""

import itertools
import unittest

from knotpanels.bands import copies_diagram
from knotpanels.diagrams import panel_diagram, put_behind
from knotpanels.panels import read_panel
from tests.helper import behind, mixed, plain, told, traced_arcs


def diagram_told(diagram):
    return [diagram.closed] + diagram.joined


class Diagrams(unittest.TestCase):
    def test_different_panels_in_either_order(self):
        for high in (1, 2, 3, 8):
            panels = [mixed(2, high, 1), mixed(3, high, 2), plain(1, high, 0), plain(2, high, 1), mixed(1, high, 4)]
            diagrams = [panel_diagram(read_panel(b)) for b in panels]
            betweens = [mixed(high + 1, 1, seed)[6:] for seed in range(3)]
            for first, second, third in itertools.product(diagrams, repeat=3):
                for j, k in itertools.product(betweens, repeat=2):
                    one = put_behind(put_behind(first, second, j), third, k)
                    other = put_behind(first, put_behind(second, third, k), j)
                    self.assertEqual(diagram_told(one), diagram_told(other))

    def test_copies_in_any_order(self):
        for b, j in ((mixed(3, 2, 1), [0, 2]), (mixed(2, 3, 4), [1, 0, 2]), (mixed(1, 4, 2), [0, 0, 2, 1])):
            once = panel_diagram(read_panel(b))
            from_left, from_right = once, once
            for n in range(2, 20):
                from_left = put_behind(from_left, once, j)
                from_right = put_behind(once, from_right, j)
                expected = diagram_told(copies_diagram(read_panel(b), j, n))
                self.assertEqual(diagram_told(from_left), expected)
                self.assertEqual(diagram_told(from_right), expected)
                self.assertEqual(traced_arcs(b, j, n), expected)

    def test_against_points_that_hang_together(self):
        for high in (1, 2, 5):
            for kind in range(3):
                first, second = mixed(2, high, 7), mixed(3, high, 8)
                diagrams = [panel_diagram(read_panel(b)) for b in (first, second)]
                j = [kind] * high
                put = behind(diagram_told(diagrams[0]), diagram_told(diagrams[1]), j)
                self.assertEqual(diagram_told(put_behind(diagrams[0], diagrams[1], j)), put)

    def test_what_is_put_together_stays_as_it_was(self):
        once = panel_diagram(read_panel(told(2, 2, [0, 1, 2, 0])))
        before = diagram_told(once)
        put_behind(once, once, [0, 1])
        self.assertEqual(diagram_told(once), before)


if __name__ == "__main__":
    unittest.main()
