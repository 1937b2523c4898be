"""Motions: panels turned and mirrored, and which of them are alike."""

from knotpanels.panels import LOWER, RIGHT, Panel, panel_bytes, place_at, place_count

MOTIONS = 8
FIRST_MIRRORED = 4


def moved_wide(wide, high, m):
    """How wide a panel of this size is when it's moved."""
    return high if m % 2 == 1 else wide


def moved_high(wide, high, m):
    """How high a panel of this size is when it's moved."""
    return wide if m % 2 == 1 else high


def side_to(m, k):
    """The side that side k of a square becomes."""
    if m >= FIRST_MIRRORED:
        k = (4 - k) % 4
    return (k + m % 4) % 4


def square_to(wide, high, m, s):
    """The square to which square s of a panel of this size goes."""
    x = s % wide
    y = s // wide
    if m >= FIRST_MIRRORED:
        x = wide - 1 - x
    for quarter in range(m % 4):
        turned_x = high - 1 - y
        y = x
        x = turned_x
        turned_wide = high
        high = wide
        wide = turned_wide
    return y * wide + x


def piece_to(wide, high, m, i):
    """The piece to which piece i of a panel of this size goes."""
    one = side_to(m, i % 4)
    other = side_to(m, (i + 1) % 4)
    # A mirror changes which of the two sides the piece begins at.
    first = one if (one + 1) % 4 == other else other
    return 4 * square_to(wide, high, m, i // 4) + first


def places_to(wide, high, m):
    """For each place of a panel of this size the place to which it goes."""
    new_wide = moved_wide(wide, high, m)
    new_high = moved_high(wide, high, m)
    targets = [0] * place_count(wide, high)
    for s in range(wide * high):
        # Every place is the right or the lower side of just one square.
        for k in (RIGHT, LOWER):
            p = place_at(wide, high, s, k)
            if p is not None:
                targets[p] = place_at(new_wide, new_high, square_to(wide, high, m, s), side_to(m, k))
    return targets


def moved_panel(panel, m):
    """The panel moved by motion m."""
    targets = places_to(panel.wide, panel.high, m)
    stands = [0] * len(targets)
    for p in range(len(targets)):
        stands[targets[p]] = panel.stands[p]
    return Panel(moved_wide(panel.wide, panel.high, m), moved_high(panel.wide, panel.high, m), stands)


def moved_bytes(panel, m):
    """The bytes of the panel moved by motion m."""
    return panel_bytes(moved_panel(panel, m))


def motions_between(panel, other):
    """The motions, rising, by which the panel is the other."""
    wanted = panel_bytes(other)
    return [m for m in range(MOTIONS) if moved_bytes(panel, m) == wanted]


def least_motion(panel):
    """The first motion that gives the panel's least form."""
    least = 0
    for m in range(1, MOTIONS):
        if moved_bytes(panel, m) < moved_bytes(panel, least):
            least = m
    return least
