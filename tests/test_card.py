"""Promise 17: card."""

import unittest

from knotpanels.desk import card
from tests.helper import (
    all_panels, all_weaves, crossings, drawing_of, in_bytes, in_text, long_bytes, mixed, mixed_weave, plain,
    sample_cards, told, wrong_panels,
)


def drawn(text):
    return [len(text)] + in_bytes(text)


def wrong_weaves(b):
    """Lists that are no weave of the panel, each at most 1,024 long."""
    bits = crossings(b)
    wrong = [[0] * (bits + 1), [1] * (bits + 1), [0] * 1024]
    if bits > 0:
        wrong += [[], [0] * (bits - 1), [1] * (bits - 1)]
    for spot in range(bits):
        for number in (2, 3, 255, 4294967295):
            wrong.append([0] * spot + [number] + [1] * (bits - 1 - spot))
    return wrong


class CardDrawn(unittest.TestCase):
    def test_told_by_hand(self):
        self.assertEqual(card(told(1, 1, []), []), [2, 111, 10])
        # Wider: upright 0 1 / 2 0, level 0 0 1.
        b = told(3, 2, [0, 1, 2, 0, 0, 0, 1])
        self.assertEqual(card(b, [0, 1, 1, 0]), drawn("o\\o|o\n\\ / -\no-o/o\n"))
        self.assertEqual(card(b, [1, 0, 0, 1]), drawn("o/o|o\n/ \\ -\no-o\\o\n"))
        # Higher: upright 0 / 2 / 1, level 0 2 / 1 0.
        b = told(2, 3, [0, 2, 1, 0, 2, 1, 0])
        self.assertEqual(card(b, [0, 0, 1]), drawn("o\\o\n/ |\no-o\n- \\\no|o\n"))
        self.assertEqual(card(b, [1, 1, 0]), drawn("o/o\n\\ |\no-o\n- /\no|o\n"))

    def test_each_sign_at_either_side(self):
        upright = [([0], [0], "o\\o\n"), ([0], [1], "o/o\n"), ([1], [], "o|o\n"), ([2], [], "o-o\n")]
        for stands, w, text in upright:
            self.assertEqual(card(told(2, 1, stands), w), drawn(text))
        level = [([0], [0], "o\n/\no\n"), ([0], [1], "o\n\\\no\n"), ([1], [], "o\n-\no\n"), ([2], [], "o\n|\no\n")]
        for stands, w, text in level:
            self.assertEqual(card(told(1, 2, stands), w), drawn(text))

    def test_a_bit_belongs_to_its_crossing(self):
        b = told(2, 2, [0, 2, 1, 0])
        self.assertEqual(card(b, [0, 0]), drawn("o\\o\n- /\no-o\n"))
        self.assertEqual(card(b, [1, 0]), drawn("o/o\n- /\no-o\n"))
        self.assertEqual(card(b, [0, 1]), drawn("o\\o\n- \\\no-o\n"))

    def test_samples_drawn_on_paper(self):
        for b, w in sample_cards():
            t = drawing_of(b, w)
            self.assertEqual(card(b, w), [len(t)] + t, in_text(t))

    def test_all_small_cards(self):
        for wide, high in ((2, 2), (3, 1), (1, 3), (2, 1)):
            for b in all_panels(wide, high, 3):
                for w in all_weaves(b):
                    t = drawing_of(b, w)
                    self.assertEqual(card(b, w), [len(t)] + t)

    def test_one_square_wide_or_high(self):
        self.assertEqual(card(plain(8, 1, 0), [0, 1] * 3 + [0]), drawn("o\\o/o\\o/o\\o/o\\o\n"))
        self.assertEqual(card(plain(1, 4, 0), [0, 1, 0]), drawn("o\n/\no\n\\\no\n/\no\n"))
        self.assertEqual(len(card(plain(1, 8, 1), [])), 1 + 30)
        self.assertEqual(card(plain(8, 1, 2), []), drawn("o" + "-o" * 7 + "\n"))

    def test_eight_by_eight(self):
        squares, between = "o\\" * 7 + "o\n", "/ " * 7 + "/\n"
        self.assertEqual(card(plain(8, 8, 0), [0] * 112), drawn(between.join([squares] * 8)))
        self.assertEqual(card(plain(8, 8, 0), [0] * 112)[0], 240)
        self.assertEqual(card(plain(8, 8, 1), [])[:6], [240, 111, 124, 111, 124, 111])

    def test_no_weave_of_the_panel(self):
        for b in (told(1, 1, []), plain(2, 1, 1), told(2, 1, [0]), mixed(3, 3, 2), plain(2, 2, 0), plain(8, 8, 0)):
            self.assertEqual(card(b, mixed_weave(b, 1))[0], 2 * b[4] * (2 * b[5] - 1))
            for w in wrong_weaves(b):
                self.assertEqual(card(b, w), [-9], (b, w))

    def test_refusals_in_their_order(self):
        for b in wrong_panels():
            for w in ([], [0], [2], [0] * 4, [4294967295] * 1024):
                self.assertEqual(card(b, w), [-6], b)
            self.assertEqual(card(b, [0] * 1025), [-2])
        for b in long_bytes():
            for w in ([], [0], [2] * 1024, [0] * 1025):
                self.assertEqual(card(b, w), [-2])
        for b in (told(1, 1, []), plain(2, 2, 0)):
            self.assertEqual(card(b, [0] * 1024), [-9])
            for w in ([0] * 1025, [2] * 1025, [4294967295] * 2000):
                self.assertEqual(card(b, w), [-2])

    def test_nothing_is_changed_or_kept(self):
        b, w = mixed(3, 4, 5), mixed_weave(mixed(3, 4, 5), 1)
        before = list(b), list(w)
        first = card(b, w)
        first.append(7)
        first[1] = 7
        self.assertEqual(card(b, [1 - bit for bit in w])[0], first[0])
        self.assertEqual(card(b, w)[2:], first[2:-1])
        self.assertEqual((b, w), before)


if __name__ == "__main__":
    unittest.main()
