"""Promise 21: finish."""

import itertools
import math
import unittest

from knotpanels.desk import card_judge, card_panel, card_weave, finish
from tests.helper import (
    all_panels, crossings, drawing_of, grid, group_count, in_bytes, in_text, judged_on_paper, kinds_on_paper,
    long_bytes, merged, mixed, place_cells, plain, samples, strands_of, told, wrong_panels,
)


def drawn(text):
    return [len(text)] + in_bytes(text)


def named_crossings(b):
    """The places that the words name: gone through rising, the strands as lines on paper."""
    strands = [{point for piece in strand for point in piece} for strand in strands_of(b)]
    together, taken = [{n} for n in range(len(strands))], []
    for p, (row, column) in enumerate(place_cells(b[4], b[5])):
        if b[6 + p] == 0:
            meeting = {n for n, points in enumerate(strands) if (column + 1, row + 1) in points}
            if not any(meeting <= group for group in together):
                taken.append(p)
                together = merged(together + [meeting])
    return taken


def broken(b, breaks):
    """The panel's bytes with breaks: places, and how each is broken."""
    left = list(b)
    for p, kind in breaks:
        left[6 + p] = kind
    return left


def finished(b):
    """The drawing that the words ask for."""
    left = broken(b, [(p, 2) for p in named_crossings(b)])
    return drawing_of(left, [0] * crossings(left))


def first_row_that_does(b, how_many, most):
    """Of all rows of so many crossings, each broken along or across, the first that leaves at most so many strands."""
    standing = [p for p, kind in enumerate(b[6:]) if kind == 0]
    for row in itertools.combinations(standing, how_many):
        for kinds in itertools.product((1, 2), repeat=how_many):
            if len(strands_of(broken(b, zip(row, kinds)))) <= most:
                return list(row)
    return None


def small_panels():
    found = list(all_panels(2, 2, 3)) + list(all_panels(3, 1, 3)) + list(all_panels(1, 3, 3))
    found += [mixed(3, 2, seed) for seed in range(12)] + [mixed(2, 3, seed) for seed in range(12)]
    found += [told(3, 2, [kind, 0, 0, 0, 0, 0, other]) for kind in range(3) for other in range(3)]
    return found + [plain(3, 3, 0), told(3, 3, [2, 0] + [0] * 10), told(3, 3, [0, 1] + [0] * 10), plain(2, 4, 0)]


class Finish(unittest.TestCase):
    def test_told_by_hand(self):
        self.assertEqual(finish(told(1, 1, [])), [2, 111, 10])
        # One strand already: crossings stay, each with bit 0.
        self.assertEqual(finish(told(2, 1, [0])), drawn("o\\o\n"))
        self.assertEqual(finish(told(1, 2, [0])), drawn("o\n/\no\n"))
        self.assertEqual(finish(plain(3, 2, 0)), drawn("o\\o\\o\n/ / /\no\\o\\o\n"))
        # Two strands that cross at all four places: the first is broken.
        self.assertEqual(finish(plain(2, 2, 0)), drawn("o-o\n/ /\no\\o\n"))
        # Three strands.
        self.assertEqual(finish(plain(3, 3, 0)), drawn("o-o-o\n/ / /\no\\o\\o\n/ / /\no\\o\\o\n"))

    def test_crossings_of_strands_that_hang_together_are_passed_over(self):
        # Square 0 hangs on to the others by a crossing of one strand with itself, so the next one is broken.
        b = told(3, 2, [0, 0, 1, 0, 1, 0, 0])
        self.assertEqual(named_crossings(b), [1])
        self.assertEqual(finish(b), drawn("o\\o-o\n- / /\no|o\\o\n"))
        # Two strands, the second with itself at the second place: one break at the first is enough.
        self.assertEqual(finish(plain(4, 2, 0)), drawn("o-o\\o\\o\n/ / / /\no\\o\\o\\o\n"))

    def test_breaks_that_stand_are_left(self):
        self.assertEqual(finish(told(3, 2, [1, 2, 2, 1, 1, 2, 1])), drawn("o|o-o\n- | -\no-o|o\n"))
        self.assertEqual(finish(told(2, 3, [1, 2, 1, 2, 1, 1, 2])), drawn("o|o\n| -\no-o\n- |\no|o\n"))
        for kind in (1, 2):
            for wide, high in ((3, 2), (1, 8), (8, 1), (8, 8)):
                b = plain(wide, high, kind)
                self.assertEqual(finish(b)[1:], drawing_of(b, []))

    def test_plain_plaits(self):
        for wide in range(1, 9):
            for high in range(1, 9):
                b = plain(wide, high, 0)
                t = finish(b)[1:]
                self.assertEqual(card_judge(t), [1, 1, 1, 1])
                self.assertEqual(card_panel(t)[7:].count(2), math.gcd(wide, high) - 1)
                self.assertEqual(card_panel(t)[7:].count(1), 0)

    def test_samples_by_lines_on_paper(self):
        breaks = set()
        for b in samples(6) + [mixed(7, 4, 3), mixed(4, 7, 3), mixed(8, 5, 1), mixed(2, 8, 1)]:
            t = finished(b)
            self.assertEqual(finish(b), [len(t)] + t, b)
            breaks.add(len(named_crossings(b)))
        self.assertLessEqual({0, 1, 2, 3}, breaks)

    def test_all_small_panels(self):
        for wide, high, kinds in ((2, 2, 3), (4, 1, 3), (1, 4, 3), (3, 2, 2), (2, 3, 2)):
            for b in all_panels(wide, high, kinds):
                t = finished(b)
                self.assertEqual(finish(b), [len(t)] + t, b)

    def test_finished_with_a_strand_for_each_group(self):
        several = 0
        for b in samples(6) + [mixed(8, 8, seed) for seed in range(5)] + [mixed(6, 7, 3), mixed(7, 3, 2)]:
            t, groups = finish(b)[1:], group_count(b)
            self.assertEqual(card_judge(t), [1, 1, groups, groups], b)
            self.assertEqual(judged_on_paper(t), [1, 1, groups, groups], b)
            several += groups > 1
        self.assertGreater(several, 10)

    def test_only_crossings_are_broken_and_only_across(self):
        for b in samples(5) + small_panels():
            t = finish(b)[1:]
            left = card_panel(t)[1:]
            self.assertEqual(left[:6], b[:6])
            changes = [(p, old, new) for p, (old, new) in enumerate(zip(b[6:], left[6:])) if old != new]
            self.assertEqual(changes, [(p, 0, 2) for p in named_crossings(b)])
            self.assertEqual(len(changes), len(strands_of(b)) - group_count(b))
            self.assertEqual(card_weave(t), [crossings(left)] + [0] * crossings(left))

    def test_no_fewer_breaks_would_do(self):
        for b in small_panels():
            taken, groups = named_crossings(b), group_count(b)
            for fewer in range(len(taken)):
                self.assertIsNone(first_row_that_does(b, fewer, groups), b)
            # And of those that are as few it's the first row.
            self.assertEqual(first_row_that_does(b, len(taken), groups), taken, b)
            left = card_panel(finish(b)[1:])[1:]
            self.assertEqual([p for p, kind in enumerate(left[6:]) if kind != b[6 + p]], taken)

    def test_as_many_strands_as_groups_already(self):
        for b in (plain(3, 2, 0), plain(8, 7, 0), told(4, 1, [0, 1, 0]), told(2, 2, [0, 0, 1, 1]), plain(1, 8, 0)):
            self.assertEqual(len(strands_of(b)), group_count(b))
            self.assertEqual(finish(b)[1:], drawing_of(b, [0] * crossings(b)))

    def test_several_groups(self):
        # Two plaits of two strands each beside one another, and a square by itself.
        b = told(5, 2, [0, 1, 0, 1, 0, 1, 0, 1, 0, 0, 0, 0, 1])
        self.assertEqual(finish(b), drawn("o-o|o-o|o\n/ / / / -\no\\o|o\\o|o\n"))
        self.assertEqual(card_judge(finish(b)[1:]), [1, 1, 4, 4])
        # One above the other.
        b = told(2, 4, [0, 0, 0, 0, 0, 0, 1, 1, 0, 0])
        self.assertEqual(finish(b), drawn("o-o\n/ /\no\\o\n- -\no-o\n/ /\no\\o\n"))

    def test_eight_by_eight(self):
        squares, between = "o\\" * 7 + "o\n", "/ " * 7 + "/\n"
        self.assertEqual(finish(plain(8, 8, 0)), drawn(between.join(["o-" * 7 + "o\n"] + [squares] * 7)))
        for seed in range(6):
            b = mixed(8, 8, seed)
            self.assertEqual(finish(b)[1:], finished(b))

    def test_no_crossing_is_drawn_as_the_other_strand(self):
        for b in samples(2):
            rows = in_text(finish(b)[1:]).split("\n")
            self.assertTrue(all("/" not in row for row in rows[::2]))
            self.assertTrue(all("\\" not in row for row in rows[1::2]))
            self.assertTrue(all(kinds_on_paper(grid(b))[x + 1, y + 1] == 0
                                for y, row in enumerate(rows) for x, sign in enumerate(row) if sign in "\\/"))

    def test_refusals_in_their_order(self):
        for b in wrong_panels():
            self.assertEqual(finish(b), [-6], b)
        for b in long_bytes():
            self.assertEqual(finish(b), [-2])
        self.assertEqual(finish([0] * 1024), [-6])
        self.assertEqual(finish([0] * 1025), [-2])

    def test_nothing_is_changed_or_kept(self):
        b = plain(4, 4, 0)
        before = list(b)
        first = finish(b)
        first.append(7)
        finish(mixed(4, 4, 1))
        self.assertEqual(finish(b), first[:-1])
        self.assertEqual(b, before)


if __name__ == "__main__":
    unittest.main()
