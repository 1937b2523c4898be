"""What holds over the whole program: the document's four points, sentence by sentence, and its interface.

What calls answer is held against what other calls answer, and here and there
against lines on paper, over panels, sizes, bands and cards of many kinds.
"""

import inspect
import itertools
import math
import unittest

from knotpanels import desk
from tests.helper import (
    DRAWING_FORMS, SIGNS, all_panels, all_weaves, crossings, first_fault, grid, in_bytes, in_text, kinds_on_paper,
    mixed, mixed_between, mixed_weave, next_point, piece_points, place_cells, plain, sample_bands, sample_cards,
    samples, strands_of, told, wrong_drawings,
)

INTERFACE = {
    "moved": "m b", "keeps": "b", "form": "b", "same": "b c", "strand_to": "m k b", "count": "w h k", "areas": "b",
    "room": "s b", "court": "x y b", "area": "a b", "sides": "i b", "areas_at": "p b", "band": "ring n b j",
    "arcs": "n b j", "band_panel": "n b j", "round_of": "b j", "card": "b w", "card_panel": "t", "card_weave": "t",
    "card_judge": "t", "finish": "b",
}


def panels():
    """Panels of many sizes and kinds, none too large to be asked much of."""
    found = list(all_panels(2, 2, 3))[::4] + list(all_panels(3, 1, 3)) + [mixed(3, 2, seed) for seed in range(5)]
    found += [mixed(2, 4, 1), mixed(4, 3, 2), mixed(5, 5, 3), plain(3, 3, 0), plain(4, 2, 0), plain(3, 3, 2)]
    return found + [told(1, 1, []), mixed(1, 8, 1), mixed(8, 1, 1), mixed(8, 8, 1)]


def moved(m, b):
    return desk.moved(m, b)[1:]


def drawn(b, w):
    return desk.card(b, w)[1:]


def judged(b):
    """What's told of a panel's card with one bit alone."""
    return desk.card_judge(drawn(b, [0] * crossings(b)))


def number(told_bytes):
    return int.from_bytes(bytes(told_bytes[1:]), "little")


def crossing_pairs(b):
    """The two strands of each crossing, as lines on paper."""
    strands = strands_of(b)
    found = []
    for (row, column), kind in zip(place_cells(b[4], b[5]), b[6:]):
        if kind == 0:
            x, y = column + 1, row + 1
            # A line runs from the upper left or the upper right to the crossing.
            pieces = [frozenset(((x, y), (x - 1, y - 1))), frozenset(((x, y), (x + 1, y - 1)))]
            found.append(tuple(sorted(n for piece in pieces for n, strand in enumerate(strands) if piece in strand)))
    return sorted(found)


class Motions(unittest.TestCase):
    """What holds, 1."""

    def test_moved_panels_are_right(self):
        for b in panels():
            for m in range(8):
                c = moved(m, b)
                self.assertEqual(desk.keeps(c)[0], desk.keeps(b)[0])
                self.assertEqual(c[4:6], b[4:6] if m % 2 == 0 else b[5:3:-1])
                self.assertEqual(sorted(c[6:]), sorted(b[6:]))

    def test_motions_one_after_another_are_motions(self):
        # What two are together is found on a panel that no motion keeps, and is so of all others.
        odd = told(2, 3, [0, 1, 2, 0, 1, 2, 2])
        eight = [moved(m, odd) for m in range(8)]
        self.assertEqual(len({tuple(c) for c in eight}), 8)
        for first, second in itertools.product(range(8), repeat=2):
            both = eight.index(moved(second, moved(first, odd)))
            for b in panels():
                self.assertEqual(moved(second, moved(first, b)), moved(both, b))

    def test_strands_go_to_strands_and_crossings_to_crossings(self):
        for b in panels():
            strands = judged(b)[2]
            for m in range(8):
                c = moved(m, b)
                goes = [desk.strand_to(m, k, b)[0] for k in range(strands)]
                self.assertEqual(sorted(goes), list(range(strands)))
                self.assertEqual(judged(c), judged(b))
                self.assertEqual(desk.strand_to(m, strands, b), [-4])
                pairs = sorted(tuple(sorted((goes[one], goes[other]))) for one, other in crossing_pairs(b))
                self.assertEqual(pairs, crossing_pairs(c))

    def test_one_least_form_just_if_alike(self):
        some = list(all_panels(2, 2, 3))[::3] + list(all_panels(3, 1, 3)) + list(all_panels(1, 3, 3))
        some += [moved(m, mixed(4, 3, seed)) for m in range(8) for seed in range(2)]
        alike = 0
        for b, c in itertools.product(some, repeat=2):
            answer = desk.same(b, c)
            self.assertEqual(answer[0] == 1, desk.form(b)[2:] == desk.form(c)[2:])
            if answer[0] == 1:
                alike += 1
                self.assertEqual(moved(answer[1], b), c)
        self.assertGreater(alike, len(some))

    def test_what_keeps_a_panel_can_be_done_one_after_another(self):
        for b in panels():
            kept = [m for m in range(8) if desk.keeps(b)[1 + m]]
            for first, second in itertools.product(kept, repeat=2):
                self.assertEqual(moved(second, moved(first, b)), b)
            # As often as it is kept, it comes again among the eight.
            self.assertEqual(len({tuple(moved(m, b)) for m in range(8)}) * len(kept), 8)

    def test_as_many_that_are_not_alike_as_told(self):
        for wide, high, kinds in ((1, 1, 3), (2, 1, 3), (1, 4, 3), (2, 2, 3), (2, 3, 2), (3, 2, 2)):
            apart = []
            for b in all_panels(wide, high, kinds):
                if not any(desk.same(b, c)[0] for c in apart):
                    apart.append(b)
            self.assertEqual(number(desk.count(wide, high, kinds)), len(apart))


def areas_beside(b):
    """The pairs of areas with a piece between them."""
    return [desk.sides(i, b)[1:] for i in range(4 * b[4] * b[5])]


def colours_spread(areas, beside, colours):
    """Colours that follow from those given, one and the other on either side of a piece; None if they don't do."""
    colours = dict(colours)
    for turn in range(areas):
        for one, other in beside + [pair[::-1] for pair in beside]:
            if one in colours and colours.setdefault(other, 1 - colours[one]) == colours[one]:
                return None
    return colours


class Areas(unittest.TestCase):
    """What holds, 2."""

    def test_each_piece_lies_between_a_room_and_a_court(self):
        for b in panels():
            for one, other in areas_beside(b):
                self.assertEqual([desk.area(one, b)[1], desk.area(other, b)[1]], [0, 1])

    def test_pieces_joined_without_a_crossing_lie_between_the_same(self):
        for b in panels():
            kinds = kinds_on_paper(grid(b))
            lies = {piece_points(b[4], i): desk.sides(i, b) for i in range(4 * b[4] * b[5])}
            for piece, between in lies.items():
                for before, point in itertools.permutations(piece):
                    following = frozenset((point, next_point(kinds, before, point)))
                    if kinds.get(point) != 0:
                        self.assertEqual(lies[following], between)

    def test_areas_are_as_many_as_crossings_groups_and_one(self):
        for b in panels() + samples(3) + list(all_panels(2, 2, 3)) + list(all_panels(2, 3, 2)):
            self.assertEqual(desk.areas(b)[0], crossings(b) + judged(b)[3] + 1)
            self.assertEqual(desk.areas(b)[0], desk.areas(b)[1] + desk.areas(b)[2])

    def test_two_colours_do_in_just_two_ways(self):
        for b in panels():
            areas, beside = desk.areas(b)[0], areas_beside(b)
            # The first area's colour is free; all others follow from it, so there are just the two ways.
            for colour in range(2):
                colours = colours_spread(areas, beside, {0: colour})
                self.assertEqual(sorted(colours), list(range(areas)))
                self.assertTrue(all(colours[one] != colours[other] for one, other in beside))
        for b in list(all_panels(2, 2, 3))[::7] + [plain(3, 1, 0)]:
            areas, beside = desk.areas(b)[0], areas_beside(b)
            ways = itertools.product(range(2), repeat=areas)
            self.assertEqual(sum(all(way[i] != way[k] for i, k in beside) for way in ways), 2)


class Bands(unittest.TestCase):
    """What holds, 3."""

    def test_diagrams_join_points_two_by_two(self):
        for b, j in sample_bands():
            for n in (1, 2, 7, 4294967295):
                joined = desk.arcs(n, b, j)[1:]
                self.assertEqual(len(joined), 4 * b[5])
                self.assertTrue(all(joined[q] == p and p != q for p, q in enumerate(joined)))

    def test_put_one_behind_another_in_whatever_order(self):
        # So many copies of so many copies are as many copies, whichever are put together first.
        for b, j in sample_bands():
            for inner, outer in ((2, 3), (3, 2), (2, 2), (4, 2), (2, 4), (1, 5), (5, 1)):
                if inner * b[4] <= 8:
                    unit = desk.band_panel(inner, b, j)[1:]
                    for rest in (1, 1000000):
                        copies = inner * outer * rest
                        self.assertEqual(desk.arcs(outer * rest, unit, j), desk.arcs(copies, b, j))
                        for ring in range(2):
                            self.assertEqual(desk.band(ring, outer * rest, unit, j), desk.band(ring, copies, b, j))

    def test_strands_by_diagrams_are_those_of_the_panel(self):
        for b, j in sample_bands():
            for n in range(1, 8 // b[4] + 1):
                self.assertEqual(desk.band(0, n, b, j), judged(desk.band_panel(n, b, j)[1:])[2:3])

    def test_strands_by_diagrams_are_those_of_the_ring(self):
        # A ring's points are joined by its diagram and by what stands between: rounds of both, and closed strands.
        for b, j in sample_bands():
            for n in (1, 2, 3, 4, 9):
                told_arcs = desk.arcs(n, b, j)
                joined, half, rounds, seen = told_arcs[1:], 2 * b[5], 0, set()
                for point in range(2 * half):
                    rounds += point not in seen
                    while point not in seen:
                        leads = joined[point]
                        seen |= {point, leads}
                        kind = j[leads % half // 2]
                        # Beyond stands the same end after a crossing, the other one after a break across.
                        point = (leads + half) % (2 * half) if kind != 1 else leads
                        point = point if kind == 0 else point ^ 1
                self.assertEqual(desk.band(1, n, b, j), [told_arcs[0] + rounds])

    def test_it_always_comes_round_with_as_many_more_each_time(self):
        for b, j in sample_bands():
            zero, t, c, more = desk.round_of(b, j)
            self.assertEqual(zero, 0)
            for n in (t, t + 1, t + c, t + 5 * c + 2):
                self.assertEqual(desk.arcs(n, b, j)[1:], desk.arcs(n + c, b, j)[1:])
                for times in (1, 2, 1000):
                    self.assertEqual(desk.arcs(n + times * c, b, j)[0], desk.arcs(n, b, j)[0] + times * more)
                    for ring in range(2):
                        later = desk.band(ring, n + times * c, b, j)
                        self.assertEqual(later, [desk.band(ring, n, b, j)[0] + times * more])
            if t > 1:
                self.assertNotEqual(desk.arcs(t - 1, b, j)[1:], desk.arcs(t - 1 + c, b, j)[1:])

    def test_plain_plaits(self):
        for high in range(1, 9):
            for wide in range(1, 9):
                self.assertEqual(judged(plain(wide, high, 0))[2:], [math.gcd(wide, high), 1])
            for n in (1, 2, 3, 9, 10, 12, 100, 840, 4294967295):
                self.assertEqual(desk.band(0, n, plain(1, high, 0), [0] * high), [math.gcd(n, high)])


def filled_forms(wide, high):
    """All that can be written where a drawing of a size goes on in one of several ways."""
    form = [form for form in DRAWING_FORMS if form.count("\n") == 2 * high - 1 and form.index("\n") == 2 * wide - 1][0]
    return ["".join(text) for text in itertools.product(*form)]


class Cards(unittest.TestCase):
    """What holds, 4."""

    def test_cards_are_drawn_and_read_again(self):
        for b, w in sample_cards():
            t = drawn(b, w)
            self.assertEqual((desk.card_panel(t), desk.card_weave(t)), ([len(b)] + b, [len(w)] + w))

    def test_drawings_and_cards_are_one_to_one(self):
        for wide, high in ((1, 1), (2, 1), (1, 3), (2, 2), (4, 1)):
            texts = filled_forms(wide, high)
            self.assertEqual(len(texts), 4 ** len(place_cells(wide, high)))
            cards = [(b, w) for b in all_panels(wide, high, 3) for w in all_weaves(b)]
            self.assertEqual(sorted(in_text(drawn(b, w)) for b, w in cards), sorted(texts))
            for text in texts:
                t = in_bytes(text)
                self.assertEqual(drawn(desk.card_panel(t)[1:], desk.card_weave(t)[1:]), t)

    def test_one_first_fault(self):
        for t in wrong_drawings()[::5]:
            answers = [desk.card_panel(t), desk.card_weave(t), desk.card_judge(t)]
            self.assertEqual(answers, [[-6, first_fault(t)]] * 3)
            # Up to there some drawing goes on: what's ahead of the fault has its own at its end, or is a drawing.
            fault = answers[0][1]
            ahead = desk.card_panel(t[:fault])
            self.assertTrue(ahead == [-6, fault] or ahead[0] > 0)
            # And what follows the fault doesn't matter.
            for behind in ([], [10], in_bytes("o" + SIGNS)):
                if fault < len(t) and fault + len(behind) < 1024:
                    self.assertEqual(desk.card_panel(t[:fault + 1] + behind), [-6, fault])

    def test_finished_each_group_is_one_strand_and_takes_turns(self):
        for b in panels() + samples(3) + list(all_panels(2, 2, 3)):
            groups = judged(b)[3]
            self.assertEqual(desk.card_judge(desk.finish(b)[1:]), [1, 1, groups, groups])

    def test_what_is_finished_stays_as_it_is(self):
        for b in panels():
            t = desk.finish(b)[1:]
            self.assertEqual(desk.finish(desk.card_panel(t)[1:])[1:], t)

    def test_no_fewer_breaks_would_do(self):
        # A break at a crossing takes at most one strand away, so it needs as many as there are strands too many.
        for b in panels():
            strands, groups = judged(b)[2:]
            left = desk.card_panel(desk.finish(b)[1:])[1:]
            self.assertEqual(sum(old != new for old, new in zip(b, left)), strands - groups)
            for p in range(len(b) - 6):
                if b[6 + p] == 0:
                    for kind in (1, 2):
                        self.assertGreaterEqual(judged(b[:6 + p] + [kind] + b[7 + p:])[2], strands - 1)


class Interface(unittest.TestCase):
    def test_names_and_arguments(self):
        for name, arguments in INTERFACE.items():
            call = getattr(desk, name)
            self.assertEqual(list(inspect.signature(call).parameters), arguments.split(), name)
            self.assertEqual(call.__module__, "knotpanels.desk")
        self.assertEqual(len(INTERFACE), 21)

    def calls(self):
        """A right call of each with what it's handed, and a refused one."""
        b, unit = mixed(3, 3, 4), mixed(2, 3, 1)
        p, w, j = b[6:].index(0), mixed_weave(b, 1), mixed_between(3, 1)
        t = drawn(b, w)
        right = {
            "moved": [5, b], "keeps": [b], "form": [b], "same": [b, moved(3, b)], "strand_to": [3, 0, b],
            "count": [4, 4, 3], "areas": [b], "room": [4, b], "court": [1, 2, b], "area": [1, b], "sides": [7, b],
            "areas_at": [p, b], "band": [1, 10, unit, j], "arcs": [10, unit, j], "band_panel": [3, unit, j],
            "round_of": [unit, j], "card": [b, w], "card_panel": [t], "card_weave": [t], "card_judge": [t],
            "finish": [b],
        }
        self.assertEqual(list(right), list(INTERFACE))
        return right

    def test_lists_of_whole_numbers_are_given_back(self):
        for name, handed in self.calls().items():
            answer = getattr(desk, name)(*handed)
            refused = getattr(desk, name)(*[[] if isinstance(value, list) else 0 for value in handed])
            for numbers in (answer, refused):
                self.assertIs(type(numbers), list, name)
                self.assertEqual({type(value) for value in numbers}, {int}, name)
            self.assertGreaterEqual(answer[0], 0, name)
            self.assertLess(refused[0], 0, name)
            self.assertEqual(len(refused), 2 if INTERFACE[name] == "t" else 1, name)

    def test_nothing_is_changed_or_kept(self):
        calls = self.calls()
        first = {name: getattr(desk, name)(*handed) for name, handed in calls.items()}
        self.assertEqual(calls, self.calls())
        # In another order, on the same lists, and with what was given back spoilt.
        kept = {name: list(answer) for name, answer in first.items()}
        for answer in first.values():
            answer[:] = [99]
        for name in reversed(list(calls)):
            self.assertEqual(getattr(desk, name)(*calls[name]), kept[name], name)
        self.assertEqual(calls, self.calls())


if __name__ == "__main__":
    unittest.main()
