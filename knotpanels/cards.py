"""Cards: panels with their weaves, as they are drawn and read."""

from knotpanels.panels import (
    ALONG, CROSSING, MOST_SQUARES, RIGHT, Panel, crossing_places, place_count, place_side, square_before,
)

LINE_END = 10
BLANK = 32
# The sign o.
SQUARE = 111

# A place is drawn in one of four ways: a crossing with bit 0, one with bit 1,
# a break along, a break across. At an upright side the piece that ends there
# falls, at a level one the piece that begins there does: so the signs are
# \ / | - at upright places and / \ - | at level ones.
UPRIGHT_SIGNS = (92, 47, 124, 45)
LEVEL_SIGNS = (47, 92, 45, 124)
BREAKS_FROM = 2


# Only right cards are made: a panel and a bit for each of its crossings.
class Card:
    def __init__(self, panel, weave):
        self.panel = panel
        self.weave = weave


def signs_for(wide, high, p):
    """The signs of the four ways in which place p may be drawn."""
    return UPRIGHT_SIGNS if place_side(wide, high, p) == RIGHT else LEVEL_SIGNS


def drawn_at(wide, high, p):
    """Where in a drawing the sign of place p stands: behind or below that of the square before it."""
    s = square_before(wide, high, p)
    line = 2 * wide
    square = s // wide * 2 * line + s % wide * 2
    return square + 1 if place_side(wide, high, p) == RIGHT else square + line


def bare_drawing(wide, high):
    """A drawing of this size with blanks for the signs of its places."""
    squares = [SQUARE, BLANK] * (wide - 1) + [SQUARE, LINE_END]
    between = [BLANK] * (2 * wide - 1) + [LINE_END]
    return (squares + between) * (high - 1) + squares


def card_drawing(card):
    """The bytes of a card's drawing."""
    panel = card.panel
    bits = dict(zip(crossing_places(panel), card.weave))
    drawing = bare_drawing(panel.wide, panel.high)
    for p in range(len(panel.stands)):
        way = bits[p] if p in bits else BREAKS_FROM + panel.stands[p] - ALONG
        drawing[drawn_at(panel.wide, panel.high, p)] = signs_for(panel.wide, panel.high, p)[way]
    return drawing


def may_stand(byte, i, line):
    """Whether a byte may stand at place i of a drawing, line bytes being a line with its end.

    While the first line isn't ended, line is 0: it may yet be of any length.
    """
    if line == 0:
        return may_stand_first(byte, i)
    row = i // line
    column = i % line
    if row >= 2 * MOST_SQUARES - 1:
        return False
    if column == line - 1:
        return byte == LINE_END
    if row % 2 != column % 2:
        return byte in UPRIGHT_SIGNS
    return byte == (SQUARE if row % 2 == 0 else BLANK)


def may_stand_first(byte, i):
    """Whether a byte may stand at place i of a drawing's first line, which it may end."""
    if i % 2 == 0:
        return byte == SQUARE
    if i == 2 * MOST_SQUARES - 1:
        return byte == LINE_END
    return byte == LINE_END or byte in UPRIGHT_SIGNS


def drawing_fault(t):
    """The first place where no card's drawing goes on as t does, or None if t is one."""
    line = 0
    for i in range(len(t)):
        if not may_stand(t[i], i, line):
            return i
        if line == 0 and t[i] == LINE_END:
            line = i + 1
    # Lines of squares and level ones take turns, so whole drawings have an odd number of lines.
    if line > 0 and len(t) % (2 * line) == line:
        return None
    return len(t)


def read_card(t):
    """The card that a right drawing t shows."""
    wide = (t.index(LINE_END) + 1) // 2
    high = (len(t) // (2 * wide) + 1) // 2
    stands = []
    weave = []
    for p in range(place_count(wide, high)):
        way = signs_for(wide, high, p).index(t[drawn_at(wide, high, p)])
        if way < BREAKS_FROM:
            stands.append(CROSSING)
            weave.append(way)
        else:
            stands.append(way - BREAKS_FROM + ALONG)
    return Card(Panel(wide, high, stands), weave)
