"""Promise 3: form."""

import unittest

from knotpanels.desk import form, moved
from tests.helper import all_panels, long_bytes, mixed, moved_by, plain, samples, told, wrong_panels


class Form(unittest.TestCase):
    def test_told_by_hand(self):
        self.assertEqual(form(told(1, 1, [])), [6, 0] + told(1, 1, []))
        self.assertEqual(form(plain(8, 8, 2)), [118, 0] + plain(8, 8, 2))
        # The narrower size is less, whatever stands at the places.
        self.assertEqual(form(told(3, 1, [2, 2])), [8, 1] + told(1, 3, [2, 2]))
        self.assertEqual(form(told(3, 1, [2, 0])), [8, 3] + told(1, 3, [0, 2]))
        self.assertEqual(form(told(1, 3, [2, 0])), [8, 2] + told(1, 3, [0, 2]))
        self.assertEqual(form(told(1, 3, [0, 2])), [8, 0] + told(1, 3, [0, 2]))

    def test_the_first_motion_is_told(self):
        # Motions 1 and 5 both bring the one break to the last place.
        b = told(2, 2, [1, 0, 0, 0])
        giving = [m for m in range(8) if moved_by(b, m) == told(2, 2, [0, 0, 0, 1])]
        self.assertEqual(giving, [1, 5])
        self.assertEqual(form(b), [10, 1] + told(2, 2, [0, 0, 0, 1]))
        for b in samples():
            all_eight = [moved_by(b, m) for m in range(8)]
            self.assertEqual(form(b)[1], all_eight.index(min(all_eight)), b)

    def test_samples_against_grids(self):
        panels = samples() + list(all_panels(2, 2, 3)) + list(all_panels(2, 3, 2))
        for b in panels:
            all_eight = [moved_by(b, m) for m in range(8)]
            least = min(all_eight)
            self.assertEqual(form(b), [len(b), all_eight.index(least)] + least, b)

    def test_every_motion_is_the_first_somewhere(self):
        panels = samples() + list(all_panels(2, 2, 3)) + list(all_panels(3, 2, 2))
        self.assertEqual({form(b)[1] for b in panels}, set(range(8)))

    def test_panels_alike_have_one_least_form(self):
        for b in (mixed(4, 4, 1), mixed(5, 2, 2), mixed(8, 8, 3), mixed(1, 6, 4)):
            for m in range(8):
                self.assertEqual(form(moved(m, b)[1:])[2:], form(b)[2:])

    def test_refusals(self):
        for b in wrong_panels():
            self.assertEqual(form(b), [-6], b)
        for b in long_bytes():
            self.assertEqual(form(b), [-2])

    def test_nothing_is_changed_or_kept(self):
        b = mixed(3, 3, 5)
        before = list(b)
        self.assertEqual(form(b), form(b))
        self.assertEqual(b, before)


if __name__ == "__main__":
    unittest.main()
