"""The calls of the interlace artist's desk.

Each gives back one list: the answer, then what else is told. A refusal is
its number alone, but for a drawing's: that tells the fault's place, too.
"""

from knotpanels.bands import coming_round, copies_diagram, copies_panel, is_between, open_strands, ring_strands
from knotpanels.breaks import finished_card, strand_groups
from knotpanels.cards import Card, card_drawing, drawing_fault, read_card
from knotpanels.grouping import group_count
from knotpanels.motions import MOTIONS, least_motion, motions_between, moved_bytes, moved_panel, piece_to
from knotpanels.panels import CROSSING, is_panel, is_size, panel_bytes, read_panel
from knotpanels.spaces import areas_round, corner_at, court_areas, court_numbers, piece_sides, room_numbers
from knotpanels.strands import strand_count, strand_numbers
from knotpanels.tally import number_bytes, unlike_count
from knotpanels.weaves import is_weave, takes_turns

MOST_LONG = 1024
MOST_KINDS = 3

RIGHT_SO_FAR = 0
TOLD = 0
OUT_OF_RANGE = -1
TOO_LONG = -2
NOT_THERE = -4
NO_CROSSING = -5
NO_PANEL = -6
NO_CARD = -6
WRONG_LIST = -9


def panels_refused(given):
    """The refusal of the bytes given, or 0 if each is a right panel's.

    None may be judged as a panel before all are known to be short enough.
    """
    for b in given:
        if len(b) > MOST_LONG:
            return TOO_LONG
    for b in given:
        if not is_panel(b):
            return NO_PANEL
    return RIGHT_SO_FAR


def band_refused(b, j):
    """The refusal of a unit's bytes and what stands between two copies, or 0 if they are a band's."""
    if len(j) > MOST_LONG:
        return TOO_LONG
    refused = panels_refused([b])
    if refused != RIGHT_SO_FAR:
        return refused
    if not is_between(j, read_panel(b).high):
        return WRONG_LIST
    return RIGHT_SO_FAR


def weave_refused(b, w):
    """The refusal of a panel's bytes and a weave of it, or 0 if they are a card's."""
    if len(w) > MOST_LONG:
        return TOO_LONG
    refused = panels_refused([b])
    if refused != RIGHT_SO_FAR:
        return refused
    if not is_weave(read_panel(b), w):
        return WRONG_LIST
    return RIGHT_SO_FAR


def drawing_refused(t):
    """The refusal of a drawing and what's told with it, or nothing if it's a card's."""
    if len(t) > MOST_LONG:
        return [TOO_LONG]
    fault = drawing_fault(t)
    if fault is not None:
        return [NO_CARD, fault]
    return []


def moved(m, b):
    """How many bytes the panel has that's moved by motion m; they."""
    refused = panels_refused([b])
    if refused != RIGHT_SO_FAR:
        return [refused]
    if m >= MOTIONS:
        return [OUT_OF_RANGE]
    told = moved_bytes(read_panel(b), m)
    return [len(told)] + told


def keeps(b):
    """How many motions keep the panel; for each motion 1 if it does, else 0."""
    refused = panels_refused([b])
    if refused != RIGHT_SO_FAR:
        return [refused]
    panel = read_panel(b)
    keeping = motions_between(panel, panel)
    return [len(keeping)] + [1 if m in keeping else 0 for m in range(MOTIONS)]


def form(b):
    """How many bytes the least form has; the first motion that gives it; they."""
    refused = panels_refused([b])
    if refused != RIGHT_SO_FAR:
        return [refused]
    panel = read_panel(b)
    m = least_motion(panel)
    told = moved_bytes(panel, m)
    return [len(told), m] + told


def same(b, c):
    """1 and the first motion by which the first panel is the second; else 0."""
    refused = panels_refused([b, c])
    if refused != RIGHT_SO_FAR:
        return [refused]
    leading = motions_between(read_panel(b), read_panel(c))
    if len(leading) == 0:
        return [0]
    return [1, leading[0]]


def strand_to(m, k, b):
    """The number that strand k has in the panel moved by motion m."""
    refused = panels_refused([b])
    if refused != RIGHT_SO_FAR:
        return [refused]
    if m >= MOTIONS:
        return [OUT_OF_RANGE]
    panel = read_panel(b)
    numbers = strand_numbers(panel)
    if k not in numbers:
        return [NOT_THERE]
    piece = piece_to(panel.wide, panel.high, m, numbers.index(k))
    return [strand_numbers(moved_panel(panel, m))[piece]]


def count(w, h, k):
    """How many bytes the number has of panels of a size and kinds that aren't alike; they."""
    if not is_size(w) or not is_size(h) or not 1 <= k <= MOST_KINDS:
        return [OUT_OF_RANGE]
    told = number_bytes(unlike_count(w, h, k))
    return [len(told)] + told


def areas(b):
    """How many areas; how many rooms; how many courts."""
    refused = panels_refused([b])
    if refused != RIGHT_SO_FAR:
        return [refused]
    panel = read_panel(b)
    rooms = group_count(room_numbers(panel))
    courts = group_count(court_numbers(panel))
    return [rooms + courts, rooms, courts]


def room(s, b):
    """Square s's room."""
    refused = panels_refused([b])
    if refused != RIGHT_SO_FAR:
        return [refused]
    numbers = room_numbers(read_panel(b))
    if s >= len(numbers):
        return [NOT_THERE]
    return [numbers[s]]


def court(x, y, b):
    """Corner (x, y)'s court, by its number as an area."""
    refused = panels_refused([b])
    if refused != RIGHT_SO_FAR:
        return [refused]
    panel = read_panel(b)
    if x > panel.wide or y > panel.high:
        return [NOT_THERE]
    return [court_areas(panel)[corner_at(panel.wide, x, y)]]


def area(a, b):
    """0; 0 for a room, 1 for a court; how many pieces lie along it; how many squares or corners it has."""
    refused = panels_refused([b])
    if refused != RIGHT_SO_FAR:
        return [refused]
    panel = read_panel(b)
    rooms = room_numbers(panel)
    belongs = rooms + court_areas(panel)
    if a not in belongs:
        return [NOT_THERE]
    along = [pair for pair in piece_sides(panel) if a in pair]
    return [TOLD, 0 if a in rooms else 1, len(along), belongs.count(a)]


def sides(i, b):
    """0; the room and the court on either side of piece i."""
    refused = panels_refused([b])
    if refused != RIGHT_SO_FAR:
        return [refused]
    pairs = piece_sides(read_panel(b))
    if i >= len(pairs):
        return [NOT_THERE]
    return [TOLD] + list(pairs[i])


def areas_at(p, b):
    """0; the two rooms and the two courts at the crossing at place p."""
    refused = panels_refused([b])
    if refused != RIGHT_SO_FAR:
        return [refused]
    panel = read_panel(b)
    if p >= len(panel.stands):
        return [NOT_THERE]
    if panel.stands[p] != CROSSING:
        return [NO_CROSSING]
    return [TOLD] + areas_round(panel, p)


def band(ring, n, b, j):
    """How many strands n copies have, turned back at the border (ring 0) or as a ring (1)."""
    refused = band_refused(b, j)
    if refused != RIGHT_SO_FAR:
        return [refused]
    if ring > 1 or n == 0:
        return [OUT_OF_RANGE]
    if ring == 1:
        return [ring_strands(read_panel(b), j, n)]
    return [open_strands(read_panel(b), j, n)]


def arcs(n, b, j):
    """How many closed strands the diagram of n copies has; of each point the one that it's joined with."""
    refused = band_refused(b, j)
    if refused != RIGHT_SO_FAR:
        return [refused]
    if n == 0:
        return [OUT_OF_RANGE]
    diagram = copies_diagram(read_panel(b), j, n)
    return [diagram.closed] + diagram.joined


def band_panel(n, b, j):
    """How many bytes the panel of n copies has; they."""
    refused = band_refused(b, j)
    if refused != RIGHT_SO_FAR:
        return [refused]
    unit = read_panel(b)
    # No copies are nought squares wide, and that's no size either.
    if not is_size(n * unit.wide):
        return [OUT_OF_RANGE]
    told = panel_bytes(copies_panel(unit, j, n))
    return [len(told)] + told


def round_of(b, j):
    """0; from how many copies on and every how many diagrams come round; how many strands more there are each time."""
    refused = band_refused(b, j)
    if refused != RIGHT_SO_FAR:
        return [refused]
    return [TOLD] + coming_round(read_panel(b), j)


def card(b, w):
    """How many bytes the drawing has of a panel and its weave; they."""
    refused = weave_refused(b, w)
    if refused != RIGHT_SO_FAR:
        return [refused]
    told = card_drawing(Card(read_panel(b), w))
    return [len(told)] + told


def card_panel(t):
    """How many bytes the card's panel has; they."""
    refused = drawing_refused(t)
    if len(refused) > 0:
        return refused
    told = panel_bytes(read_card(t).panel)
    return [len(told)] + told


def card_weave(t):
    """How many bits the card's weave has; they."""
    refused = drawing_refused(t)
    if len(refused) > 0:
        return refused
    told = read_card(t).weave
    return [len(told)] + told


def card_judge(t):
    """1 if the card is finished, else 0; 1 if it takes turns, else 0; how many strands; how many groups."""
    refused = drawing_refused(t)
    if len(refused) > 0:
        return refused
    drawn = read_card(t)
    turns = 1 if takes_turns(drawn.panel, drawn.weave) else 0
    strands = strand_count(drawn.panel)
    groups = strand_groups(drawn.panel)
    return [turns if strands == groups else 0, turns, strands, groups]


def finish(b):
    """How many bytes the drawing has of the panel finished; they."""
    refused = panels_refused([b])
    if refused != RIGHT_SO_FAR:
        return [refused]
    told = card_drawing(finished_card(read_panel(b)))
    return [len(told)] + told
