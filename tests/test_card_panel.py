"""Promise 18: card_panel, and where a card's drawing is at fault."""

import unittest

from knotpanels.desk import card, card_panel
from tests.helper import (
    WRONG_DRAWINGS, all_panels, all_weaves, drawing_of, first_fault, in_bytes, long_drawings, mixed, mixed_weave, plain,
    sample_cards, told, wrong_drawings,
)


def read(text):
    return card_panel(in_bytes(text))


class CardPanel(unittest.TestCase):
    def test_told_by_hand(self):
        self.assertEqual(read("o\n"), [6, 80, 76, 80, 49, 1, 1])
        b = told(3, 2, [0, 1, 2, 0, 0, 0, 1])
        self.assertEqual(read("o\\o|o\n\\ / -\no-o/o\n"), [len(b)] + b)
        self.assertEqual(read("o/o|o\n/ / -\no-o/o\n"), [len(b)] + b)
        b = told(2, 3, [0, 2, 1, 0, 2, 1, 0])
        self.assertEqual(read("o/o\n\\ |\no-o\n- /\no|o\n"), [len(b)] + b)

    def test_each_sign_at_either_side(self):
        for sign, kind in (("\\", 0), ("/", 0), ("|", 1), ("-", 2)):
            self.assertEqual(read("o" + sign + "o\n"), [7] + told(2, 1, [kind]))
        for sign, kind in (("\\", 0), ("/", 0), ("-", 1), ("|", 2)):
            self.assertEqual(read("o\n" + sign + "\no\n"), [7] + told(1, 2, [kind]))

    def test_drawings_read_again(self):
        for b, w in sample_cards():
            self.assertEqual(card_panel(drawing_of(b, w)), [len(b)] + b)
            self.assertEqual(card_panel(card(b, w)[1:]), [len(b)] + b)

    def test_all_small_cards(self):
        for wide, high in ((2, 2), (3, 1), (1, 3)):
            for b in all_panels(wide, high, 3):
                for w in all_weaves(b):
                    self.assertEqual(card_panel(drawing_of(b, w)), [len(b)] + b)

    def test_sizes_at_the_edge(self):
        for wide, high in ((1, 1), (8, 1), (1, 8), (8, 8), (8, 2), (2, 8)):
            for b in [plain(wide, high, kind) for kind in range(3)] + [mixed(wide, high, 6)]:
                self.assertEqual(card_panel(drawing_of(b, mixed_weave(b, 2))), [len(b)] + b)

    def test_faults_by_hand(self):
        for text, place in WRONG_DRAWINGS:
            self.assertEqual(first_fault(in_bytes(text)), place, text)
            self.assertEqual(read(text), [-6, place], text)

    def test_faults_are_the_first_places_where_no_drawing_goes_on(self):
        wrong = wrong_drawings()
        self.assertGreater(len(wrong), 3000)
        for t in wrong:
            self.assertEqual(card_panel(t), [-6, first_fault(t)], t)

    def test_every_wrong_byte(self):
        # One of each kind of place: a square, between two, a line's end, between two lines, a blank.
        t = in_bytes("o/o\n/ -\no-o\n")
        for place in (0, 1, 3, 4, 5, 7, 8, 11):
            for byte in range(256):
                changed = t[:place] + [byte] + t[place + 1:]
                fault = first_fault(changed)
                answer = card_panel(changed)
                self.assertEqual(answer[0] if fault is None else answer, 10 if fault is None else [-6, fault])

    def test_refusals_in_their_order(self):
        self.assertEqual(card_panel([111] * 1024), [-6, 1])
        self.assertEqual(card_panel([111, 10] + [0] * 1022), [-6, 2])
        self.assertEqual(card_panel([111, 10] + [0] * 1023), [-2])
        for t in long_drawings():
            self.assertEqual(card_panel(t), [-2])

    def test_nothing_is_changed_or_kept(self):
        b = mixed(3, 4, 5)
        t = drawing_of(b, mixed_weave(b, 1))
        before = list(t)
        card_panel(t).append(7)
        card_panel(in_bytes("o-"))
        self.assertEqual(card_panel(t), [len(b)] + b)
        self.assertEqual(t, before)


if __name__ == "__main__":
    unittest.main()
