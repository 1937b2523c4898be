"""Panels: their squares, sides and places, and the bytes that tell them."""

MARK = (0x50, 0x4C, 0x50, 0x31)
HEAD = 6
MOST_SQUARES = 8

CROSSING = 0
ALONG = 1
ACROSS = 2

UPPER = 0
RIGHT = 1
LOWER = 2
LEFT = 3


# Only right panels are made, so what reads one needn't judge it again.
class Panel:
    def __init__(self, wide, high, stands):
        self.wide = wide
        self.high = high
        self.stands = stands


def is_size(n):
    """Whether a panel may be n squares wide or high."""
    return 1 <= n <= MOST_SQUARES


def place_count(wide, high):
    """How many places a panel of this size has."""
    return (wide - 1) * high + wide * (high - 1)


def upright_place(wide, x, y):
    """The place between squares (x, y) and (x + 1, y)."""
    return y * (wide - 1) + x


def level_place(wide, high, x, y):
    """The place between squares (x, y) and (x, y + 1)."""
    return (wide - 1) * high + y * wide + x


def place_at(wide, high, s, k):
    """The place at side k of square s, or None where that side is the border."""
    x = s % wide
    y = s // wide
    if k == UPPER and y > 0:
        return level_place(wide, high, x, y - 1)
    if k == RIGHT and x < wide - 1:
        return upright_place(wide, x, y)
    if k == LOWER and y < high - 1:
        return level_place(wide, high, x, y)
    if k == LEFT and x > 0:
        return upright_place(wide, x - 1, y)
    return None


def square_beyond(wide, s, k):
    """The square beyond side k of square s, where that isn't the border."""
    if k == UPPER:
        return s - wide
    if k == RIGHT:
        return s + 1
    if k == LOWER:
        return s + wide
    return s - 1


def place_side(wide, high, p):
    """The side of the square before it, the left or the upper one, at which place p lies."""
    return RIGHT if p < (wide - 1) * high else LOWER


def square_before(wide, high, p):
    """The square before place p: the left or the upper one."""
    if place_side(wide, high, p) == RIGHT:
        return p // (wide - 1) * wide + p % (wide - 1)
    return p - (wide - 1) * high


def is_panel(b):
    """Whether b is a right panel's bytes.

    The order is the document's: each step relies on the ones ahead of it.
    """
    if len(b) < HEAD or tuple(b[:4]) != MARK:
        return False
    if not is_size(b[4]) or not is_size(b[5]):
        return False
    if len(b) != HEAD + place_count(b[4], b[5]):
        return False
    return max(b[HEAD:], default=CROSSING) <= ACROSS


def read_panel(b):
    """The panel that right bytes b tell."""
    return Panel(b[4], b[5], b[HEAD:])


def panel_bytes(panel):
    """The bytes that tell a panel."""
    return list(MARK) + [panel.wide, panel.high] + panel.stands


def crossing_places(panel):
    """The places at which crossings stand, rising."""
    return [p for p in range(len(panel.stands)) if panel.stands[p] == CROSSING]


def stands_at(panel, s, k):
    """What stands at side k of square s.

    The border turns strands back and leads along itself just as a break
    along does, so it's told as one.
    """
    p = place_at(panel.wide, panel.high, s, k)
    if p is None:
        return ALONG
    return panel.stands[p]
