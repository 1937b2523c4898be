"""Areas: rooms of squares and courts of corners, between the strands."""

from knotpanels.grouping import group_count, group_numbers
from knotpanels.panels import ACROSS, ALONG, LOWER, RIGHT, UPPER, place_side, square_before, square_beyond, stands_at


def room_numbers(panel):
    """For each square the number of its room."""
    squares = panel.wide * panel.high
    links = []
    for s in range(squares):
        for k in (RIGHT, LOWER):
            if stands_at(panel, s, k) == ACROSS:
                links.append((s, square_beyond(panel.wide, s, k)))
    return group_numbers(squares, links)


def corner_at(wide, x, y):
    """The corner on column line x and row line y."""
    return y * (wide + 1) + x


def corner_between(wide, s, d):
    """The corner of square s between its sides d and d + 1."""
    right = 1 if d in (0, 1) else 0
    lower = 1 if d in (1, 2) else 0
    return corner_at(wide, s % wide + right, s // wide + lower)


def court_numbers(panel):
    """For each corner the number of its court among the courts."""
    links = []
    for s in range(panel.wide * panel.high):
        for k in range(4):
            # The border counts as a break along here, too.
            if stands_at(panel, s, k) == ALONG:
                links.append((corner_between(panel.wide, s, (k + 3) % 4), corner_between(panel.wide, s, k)))
    return group_numbers((panel.wide + 1) * (panel.high + 1), links)


def court_areas(panel):
    """For each corner the number of its court as an area, behind all rooms."""
    rooms = group_count(room_numbers(panel))
    return [rooms + number for number in court_numbers(panel)]


def piece_sides(panel):
    """For each piece the room and the court between which it lies."""
    rooms = room_numbers(panel)
    courts = court_areas(panel)
    return [(rooms[i // 4], courts[corner_between(panel.wide, i // 4, i % 4)]) for i in range(4 * len(rooms))]


def areas_round(panel, p):
    """The two rooms and the two courts that come together at place p."""
    rooms = room_numbers(panel)
    courts = court_areas(panel)
    s = square_before(panel.wide, panel.high, p)
    k = place_side(panel.wide, panel.high, p)
    # A right side ends in its square's upper right corner, a lower side in the lower left one; both in the lower right.
    first = corner_between(panel.wide, s, UPPER if k == RIGHT else LOWER)
    last = corner_between(panel.wide, s, RIGHT)
    return [rooms[s], rooms[square_beyond(panel.wide, s, k)], courts[first], courts[last]]
