"""Promise 19: card_weave."""

import unittest

from knotpanels.desk import card, card_panel, card_weave
from tests.helper import (
    WRONG_DRAWINGS, all_panels, all_weaves, drawing_of, first_fault, in_bytes, long_drawings, mixed, mixed_weave, plain,
    sample_cards, wrong_drawings,
)


def read(text):
    return card_weave(in_bytes(text))


class CardWeave(unittest.TestCase):
    def test_told_by_hand(self):
        self.assertEqual(read("o\n"), [0])
        self.assertEqual(read("o|o\n| -\no-o\n"), [0])
        # Uprights come first, row by row, then levels; the same sign is another bit there.
        self.assertEqual(read("o\\o|o\n\\ / -\no-o/o\n"), [4, 0, 1, 1, 0])
        self.assertEqual(read("o/o|o\n/ \\ -\no-o\\o\n"), [4, 1, 0, 0, 1])
        self.assertEqual(read("o/o\n\\ |\no-o\n- /\no\\o\n"), [4, 1, 0, 1, 0])
        self.assertEqual(read("o/o\n/ /\no/o\n"), [4, 1, 1, 0, 0])
        self.assertEqual(read("o\\o\n\\ \\\no\\o\n"), [4, 0, 0, 1, 1])

    def test_each_sign_at_either_side(self):
        for sign, answer in (("\\", [1, 0]), ("/", [1, 1]), ("|", [0]), ("-", [0])):
            self.assertEqual(read("o" + sign + "o\n"), answer)
        for sign, answer in (("\\", [1, 1]), ("/", [1, 0]), ("|", [0]), ("-", [0])):
            self.assertEqual(read("o\n" + sign + "\no\n"), answer)

    def test_drawings_read_again(self):
        for b, w in sample_cards():
            self.assertEqual(card_weave(drawing_of(b, w)), [len(w)] + w)
            self.assertEqual(card_weave(card(b, w)[1:]), [len(w)] + w)

    def test_all_small_cards(self):
        for wide, high in ((2, 2), (3, 1), (1, 3)):
            for b in all_panels(wide, high, 3):
                for w in all_weaves(b):
                    self.assertEqual(card_weave(drawing_of(b, w)), [len(w)] + w)

    def test_what_is_read_is_drawn_again(self):
        for text in ("o\n", "o/o\n", "o\n\\\no\n", "o/o-o\n| \\ -\no|o\\o\n", "o-o\n| -\no\\o\n/ \\\no|o\n"):
            t = in_bytes(text)
            self.assertEqual(card(card_panel(t)[1:], card_weave(t)[1:]), [len(t)] + t)

    def test_sizes_at_the_edge(self):
        for wide, high in ((1, 1), (8, 1), (1, 8), (8, 8)):
            for b in [plain(wide, high, kind) for kind in range(3)] + [mixed(wide, high, 6)]:
                w = mixed_weave(b, 2)
                self.assertEqual(card_weave(drawing_of(b, w)), [len(w)] + w)

    def test_faults(self):
        for text, place in WRONG_DRAWINGS:
            self.assertEqual(read(text), [-6, place], text)
        for t in wrong_drawings():
            self.assertEqual(card_weave(t), [-6, first_fault(t)], t)

    def test_refusals_in_their_order(self):
        self.assertEqual(card_weave([111] * 1024), [-6, 1])
        self.assertEqual(card_weave([111, 10] + [0] * 1023), [-2])
        for t in long_drawings():
            self.assertEqual(card_weave(t), [-2])

    def test_nothing_is_changed_or_kept(self):
        b = mixed(3, 4, 5)
        w = mixed_weave(b, 1)
        t = drawing_of(b, w)
        before = list(t)
        card_weave(t).append(7)
        card_weave(in_bytes("o/"))
        self.assertEqual(card_weave(t), [len(w)] + w)
        self.assertEqual(t, before)


if __name__ == "__main__":
    unittest.main()
