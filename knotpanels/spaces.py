"""Areas: rooms of squares and courts of corners, between the strands."""

from knotpanels.grouping import group_numbers
from knotpanels.panels import ACROSS, ALONG, LOWER, RIGHT, square_beyond, stands_at


def room_numbers(panel):
    """For each square the number of its room."""
    squares = panel.wide * panel.high
    links = []
    for s in range(squares):
        for k in (RIGHT, LOWER):
            if stands_at(panel, s, k) == ACROSS:
                links.append((s, square_beyond(panel.wide, s, k)))
    return group_numbers(squares, links)


def corner_between(wide, s, d):
    """The corner of square s between its sides d and d + 1."""
    right = 1 if d in (0, 1) else 0
    lower = 1 if d in (1, 2) else 0
    return (s // wide + lower) * (wide + 1) + s % wide + right


def court_numbers(panel):
    """For each corner the number of its court among the courts."""
    links = []
    for s in range(panel.wide * panel.high):
        for k in range(4):
            # The border counts as a break along here, too.
            if stands_at(panel, s, k) == ALONG:
                links.append((corner_between(panel.wide, s, (k + 3) % 4), corner_between(panel.wide, s, k)))
    return group_numbers((panel.wide + 1) * (panel.high + 1), links)
