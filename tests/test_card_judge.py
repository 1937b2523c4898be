"""Promise 20: card_judge."""

import unittest

from knotpanels.desk import card_judge
from tests.helper import (
    WRONG_DRAWINGS, all_panels, all_weaves, courses_on_paper, crossings, drawing_of, first_fault, in_bytes, in_text,
    judged_on_paper, long_drawings, mixed, mixed_weave, plain, sample_cards, told, wrong_drawings, wrong_turns,
)


def judge(text):
    return card_judge(in_bytes(text))


def small_cards():
    for wide, high in ((1, 1), (2, 1), (1, 2), (3, 1), (1, 3), (2, 2), (4, 1)):
        for b in all_panels(wide, high, 3):
            for w in all_weaves(b):
                yield drawing_of(b, w)


class CardJudge(unittest.TestCase):
    def test_no_crossings(self):
        self.assertEqual(judge("o\n"), [1, 1, 1, 1])
        self.assertEqual(judge("o-o\n"), [1, 1, 1, 1])
        self.assertEqual(judge("o|o\n"), [1, 1, 2, 2])
        self.assertEqual(judge("o\n-\no\n|\no\n"), [1, 1, 2, 2])
        # Across throughout: a strand about all four squares, and one about the corner within.
        self.assertEqual(judge("o-o\n| |\no-o\n"), [1, 1, 2, 2])

    def test_a_strand_that_crosses_itself(self):
        # It passes its one crossing twice, once over and once under.
        for text in ("o/o\n", "o\\o\n", "o\n/\no\n", "o\n\\\no\n"):
            self.assertEqual(judge(text), [1, 1, 1, 1])
        self.assertEqual(judge("o\\o\\o\n"), [1, 1, 1, 1])
        self.assertEqual(judge("o/o/o\n"), [1, 1, 1, 1])
        self.assertEqual(judge("o/o\\o\n"), [0, 0, 1, 1])
        self.assertEqual(judge("o\\o/o\n"), [0, 0, 1, 1])

    def test_two_strands_that_cross(self):
        self.assertEqual(judge("o\\o\n/ /\no\\o\n"), [0, 1, 2, 1])
        self.assertEqual(judge("o/o\n\\ \\\no/o\n"), [0, 1, 2, 1])
        for text in ("o/o\n/ /\no\\o\n", "o\\o\n\\ /\no\\o\n", "o\\o\n/ \\\no\\o\n", "o\\o\n/ /\no/o\n"):
            self.assertEqual(judge(text), [0, 0, 2, 1])
        # Twice over and twice under, and one strand over the other throughout.
        self.assertEqual(judge("o/o\n/ \\\no\\o\n"), [0, 0, 2, 1])
        self.assertEqual(judge("o/o\n/ /\no/o\n"), [0, 0, 2, 1])
        self.assertEqual(judge("o\\o\n\\ \\\no\\o\n"), [0, 0, 2, 1])

    def test_a_strand_that_passes_two_crossings(self):
        # Two strands that cross twice: over there and under here, or else twice over.
        self.assertEqual(judge("o\\o\n| |\no\\o\n"), [0, 1, 2, 1])
        self.assertEqual(judge("o/o\n| |\no/o\n"), [0, 1, 2, 1])
        self.assertEqual(judge("o\\o\n| |\no/o\n"), [0, 0, 2, 1])
        self.assertEqual(judge("o/o\n| |\no\\o\n"), [0, 0, 2, 1])

    def test_several_groups(self):
        # One group takes turns and the other doesn't.
        self.assertEqual(judge("o\\o\\o|o/o\n"), [1, 1, 2, 2])
        self.assertEqual(judge("o\\o/o|o/o\n"), [0, 0, 2, 2])
        self.assertEqual(judge("o\\o|o/o\\o\n"), [0, 0, 2, 2])
        # Bits may be the other ones in another group.
        self.assertEqual(judge("o\\o\\o|o/o/o\n"), [1, 1, 2, 2])
        # Two strands in one group, one in the other.
        self.assertEqual(judge("o\\o|o\n/ / -\no\\o|o\n"), [0, 1, 4, 3])

    def test_more_strands_than_groups_is_not_finished(self):
        for b in (plain(2, 2, 0), plain(4, 2, 0), plain(3, 3, 0), plain(8, 8, 0), plain(6, 4, 0)):
            for bit in range(2):
                answer = card_judge(drawing_of(b, [bit] * crossings(b)))
                self.assertEqual((answer[:2], answer[3]), ([0, 1], 1))
        for b in (plain(3, 2, 0), plain(8, 7, 0), plain(5, 4, 0), plain(1, 8, 0), plain(8, 1, 0)):
            for bit in range(2):
                self.assertEqual(card_judge(drawing_of(b, [bit] * crossings(b))), [1, 1, 1, 1])

    def test_one_wrong_bit_is_enough(self):
        for b in (plain(3, 2, 0), plain(2, 3, 0), plain(2, 2, 0), plain(8, 8, 0)):
            for spot in range(crossings(b)):
                w = [0] * crossings(b)
                w[spot] = 1
                self.assertEqual(card_judge(drawing_of(b, w))[:2], [0, 0], spot)

    def test_samples_by_lines_on_paper(self):
        turns = []
        for b, w in sample_cards():
            t = drawing_of(b, w)
            turns.append(card_judge(t)[1])
            self.assertEqual(card_judge(t), judged_on_paper(t), in_text(t))
        self.assertEqual(sorted(set(turns)), [0, 1])

    def test_all_small_cards(self):
        answers, passes = set(), set()
        for t in small_cards():
            answer = card_judge(t)
            self.assertEqual(answer, judged_on_paper(t), in_text(t))
            answers.add(tuple(answer[:2]) + (answer[2] == answer[3],))
            passes |= {len(passed) for passed in courses_on_paper(t)}
        self.assertEqual(answers, {(1, 1, True), (0, 1, False), (0, 0, True), (0, 0, False)})
        # A strand comes back to where it began, so it can't pass an odd number of times.
        self.assertLessEqual({0, 2, 4, 6}, passes)
        self.assertFalse(any(number % 2 for number in passes))

    def test_the_last_and_the_first_crossing(self):
        seen = 0
        for t in small_cards():
            faults = [(wrong_turns(passed), len(passed)) for passed in courses_on_paper(t)]
            wrong = [(numbers, passes) for numbers, passes in faults if numbers]
            # Wrong turns come two by two, so with the last and the first there's one more, and no others here.
            if len(wrong) == 1 and len(wrong[0][0]) == 2 and wrong[0][0][1] == wrong[0][1] - 1:
                seen += 1
                self.assertEqual(card_judge(t)[:2], [0, 0], in_text(t))
        self.assertGreater(seen, 0)

    def test_two_weaves_of_each_group_take_turns(self):
        for b in list(all_panels(2, 2, 3)) + [plain(3, 2, 0), mixed(3, 3, 1), mixed(2, 4, 3)]:
            drawings = [drawing_of(b, w) for w in all_weaves(b)]
            groups = card_judge(drawings[0])[3]
            alone = sum(1 for passed in courses_on_paper(drawings[0]) if not passed)
            turns = sum(card_judge(t)[1] for t in drawings)
            self.assertEqual(turns, 2 ** (groups - alone), b)

    def test_strands_that_cross_nothing(self):
        for wide, high in ((3, 2), (8, 8), (1, 5)):
            self.assertEqual(card_judge(drawing_of(plain(wide, high, 1), [])), [1, 1, wide * high, wide * high])
        # The middle square broken off by breaks along, with crossings about it.
        b = told(3, 3, [0, 0, 1, 1, 0, 0, 0, 1, 0, 0, 1, 0])
        t = drawing_of(b, [0] * 8)
        self.assertEqual(card_judge(t), judged_on_paper(t))
        self.assertGreater(card_judge(t)[3], 1)

    def test_eight_by_eight(self):
        for seed in range(4):
            b = mixed(8, 8, seed)
            for w in ([0] * crossings(b), [1] * crossings(b), mixed_weave(b, seed)):
                t = drawing_of(b, w)
                self.assertEqual(card_judge(t), judged_on_paper(t))
        self.assertEqual(card_judge(drawing_of(plain(8, 8, 0), [0] * 112)), [0, 1, 8, 1])

    def test_faults(self):
        for text, place in WRONG_DRAWINGS:
            self.assertEqual(judge(text), [-6, place], text)
        for t in wrong_drawings():
            self.assertEqual(card_judge(t), [-6, first_fault(t)], t)

    def test_refusals_in_their_order(self):
        self.assertEqual(card_judge([111] * 1024), [-6, 1])
        self.assertEqual(card_judge([111, 10] + [0] * 1023), [-2])
        for t in long_drawings():
            self.assertEqual(card_judge(t), [-2])

    def test_nothing_is_changed_or_kept(self):
        b = mixed(3, 4, 5)
        t = drawing_of(b, mixed_weave(b, 1))
        before = list(t)
        first = card_judge(t)
        first.append(7)
        card_judge(drawing_of(b, [0] * crossings(b)))
        self.assertEqual(card_judge(t), first[:-1])
        self.assertEqual(t, before)


if __name__ == "__main__":
    unittest.main()
