"""Promise 16: round, here round_of."""

import itertools
import unittest

from knotpanels.desk import arcs, band, round_of
from tests.helper import (
    all_panels, behind, long_bytes, mixed, mixed_between, plain, sample_bands, told, traced_arcs, traced_strands,
    wrong_betweens, wrong_panels,
)

MOST = 4294967295


def one_by_one(once, j, far):
    """The diagrams of 1, 2, 3, .. copies, so far."""
    found = [once]
    while len(found) < far:
        found.append(behind(found[-1], once, j))
    return found


def from_there_on(joinings, c):
    """The least t from which on diagrams c copies apart are the same, as far as told; above the half if none is."""
    t = len(joinings) - c + 1
    while t > 1 and joinings[t - 2] == joinings[t - 2 + c]:
        t -= 1
    return t


def looked_for(diagrams):
    """t, c and more by the words, from diagrams told much further than they take to come round."""
    joinings = [diagram[1:] for diagram in diagrams]
    rounds = [(c, from_there_on(joinings, c)) for c in range(1, len(diagrams) // 2)]
    c, t = min((c, t) for c, t in rounds if t <= len(diagrams) // 4)
    # Either way one asks: no other c begins sooner.
    assert t == min(start for other, start in rounds)
    return [t, c, diagrams[t - 1 + c][0] - diagrams[t - 1][0]]


class RoundOf(unittest.TestCase):
    def test_told_by_hand(self):
        square = told(1, 1, [])
        # Crossed, strands change sides from copy to copy; broken across they don't.
        self.assertEqual(round_of(square, [0]), [0, 1, 2, 0])
        self.assertEqual(round_of(square, [2]), [0, 1, 1, 0])
        # Broken along: one copy leads over, two or more don't, and each further one is closed.
        self.assertEqual(round_of(square, [1]), [0, 2, 1, 1])
        # All broken along, and wide enough for one copy not to lead over: from the first on.
        self.assertEqual(round_of(plain(2, 1, 1), [1]), [0, 1, 1, 2])
        self.assertEqual(round_of(plain(8, 8, 1), [1] * 8), [0, 1, 1, 64])

    def test_plain_plaits(self):
        for high in range(1, 9):
            self.assertEqual(round_of(plain(1, high, 0), [0] * high), [0, 1, 2 * high, 0])
            self.assertEqual(round_of(plain(2, high, 0), [0] * high), [0, 1, high, 0])

    def test_small_units_one_by_one(self):
        for wide, high in ((1, 1), (2, 1), (1, 2), (3, 1)):
            for b in all_panels(wide, high, 3):
                for j in itertools.product(range(3), repeat=high):
                    diagrams = one_by_one(arcs(1, b, list(j)), j, 40)
                    self.assertEqual(round_of(b, list(j)), [0] + looked_for(diagrams), (b, j))

    def test_samples_one_by_one(self):
        for b, j in sample_bands():
            if b[5] <= 5:
                diagrams = [arcs(n, b, j) for n in range(1, 81)]
                self.assertEqual(round_of(b, j), [0] + looked_for(diagrams), (b, j))

    def test_samples_by_lines_followed(self):
        for b, j in ((mixed(2, 2, 1), [0, 1]), (mixed(1, 3, 2), [0, 2, 0]), (plain(1, 3, 0), [0, 1, 0])):
            diagrams = [traced_arcs(b, j, n) for n in range(1, 41)]
            self.assertEqual(round_of(b, j), [0] + looked_for(diagrams), (b, j))

    def test_late(self):
        # t above 1, both with c of 1 and above.
        self.assertEqual(round_of(told(1, 2, [0]), [0, 1])[1:3], [2, 2])
        self.assertEqual(round_of(plain(2, 2, 0), [0, 1])[1:3], [3, 1])
        for b, j, t in (
            (plain(2, 2, 0), [0, 1], 3), (plain(1, 3, 0), [0, 1, 0], 4), (plain(2, 8, 0), [0, 0, 0, 0, 0, 1, 0, 0], 9),
        ):
            diagrams = one_by_one(arcs(1, b, j), j, 40)
            self.assertEqual(round_of(b, j), [0] + looked_for(diagrams))
            self.assertEqual(round_of(b, j)[1], t)

    def test_a_long_round(self):
        # Eight high: rounds of 4, 5 and 7 points besides one another.
        b, j = plain(1, 8, 0), [0, 0, 0, 2, 0, 2, 0, 0]
        self.assertEqual(round_of(b, j), [0, 1, 140, 0])
        diagrams = one_by_one(arcs(1, b, j), j, 600)
        self.assertEqual(looked_for(diagrams), [1, 140, 0])

    def test_late_and_long(self):
        b, j = told(1, 8, [0, 1, 1, 0, 0, 0, 0]), [0, 0, 1, 0, 2, 0, 0, 0]
        self.assertEqual(round_of(b, j), [0, 2, 84, 84])
        self.assertEqual(looked_for(one_by_one(arcs(1, b, j), j, 400)), [2, 84, 84])

    def test_eight_wide_and_eight_high(self):
        for wide, high, seed in ((8, 8, 1), (8, 1, 1), (3, 8, 3)):
            b, j = mixed(wide, high, seed), mixed_between(high, seed)
            diagrams = one_by_one(traced_arcs(b, j, 1), j, 80)
            self.assertEqual(round_of(b, j), [0] + looked_for(diagrams))

    def test_as_many_more_open_and_round(self):
        for b, j in sample_bands():
            zero, t, c, more = round_of(b, j)
            for n in (t, t + 1, t + c, t + 7 * c + 3, MOST - c):
                for ring in (0, 1):
                    added = band(ring, n + c, b, j)[0] - band(ring, n, b, j)[0]
                    self.assertEqual(added, more, (ring, n, b, j))

    def test_as_many_more_by_lines_followed(self):
        for b, j in ((mixed(2, 2, 1), [0, 1]), (mixed(1, 3, 2), [1, 2, 0]), (plain(2, 2, 2), [1, 0])):
            zero, t, c, more = round_of(b, j)
            for n in (t, t + 1):
                for ring in (False, True):
                    added = traced_strands(b, j, n + c, ring) - traced_strands(b, j, n, ring)
                    self.assertEqual(added, more)

    def test_wrong_lists(self):
        for b in (told(1, 1, []), mixed(2, 3, 1), mixed(3, 2, 1), mixed(1, 8, 1)):
            for j in wrong_betweens(b[5]):
                self.assertEqual(round_of(b, j), [-9], (b, j))

    def test_refusals_in_their_order(self):
        right = mixed(2, 2, 1)
        for b in wrong_panels():
            for j in ([0, 0], [], [3, 3], [0] * 1024):
                self.assertEqual(round_of(b, j), [-6], (b, j))
        for b in long_bytes():
            for j in ([0], [], [3] * 1024, [0] * 1025):
                self.assertEqual(round_of(b, j), [-2])
        for b in (right, [], [0] * 1024, [0] * 1025):
            for j in ([0] * 1025, [3] * 2000):
                self.assertEqual(round_of(b, j), [-2])

    def test_nothing_is_changed_or_kept(self):
        b, j = mixed(3, 4, 5), [0, 1, 2, 0]
        before = list(b), list(j)
        first = round_of(b, j)
        first.append(7)
        self.assertEqual(round_of(b, j), first[:-1])
        self.assertEqual((b, j), before)


if __name__ == "__main__":
    unittest.main()
