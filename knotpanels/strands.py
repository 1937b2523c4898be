"""Strands: pieces that hang together by joined ends."""

from knotpanels.grouping import group_count, group_numbers
from knotpanels.panels import ALONG, CROSSING, crossing_places, place_side, square_before, square_beyond, stands_at


def end_at(s, k, ending):
    """At side k of square s the end of the piece that begins (ending 0) or ends (1) there."""
    if ending == 0:
        return 8 * s + 2 * k
    return 8 * s + 2 * ((k + 3) % 4) + 1


def end_side(e):
    """The side of its square at which end e lies."""
    return ((e % 8) // 2 + e % 2) % 4


def joined_end(panel, e):
    """The end with which end e is joined."""
    s = e // 8
    ending = e % 2
    k = end_side(e)
    stand = stands_at(panel, s, k)
    if stand == ALONG:
        return end_at(s, k, 1 - ending)
    beyond = square_beyond(panel.wide, s, k)
    facing = (k + 2) % 4
    if stand == CROSSING:
        return end_at(beyond, facing, ending)
    return end_at(beyond, facing, 1 - ending)


def strand_numbers(panel):
    """For each piece the number of its strand."""
    squares = panel.wide * panel.high
    links = [(e // 2, joined_end(panel, e) // 2) for e in range(8 * squares)]
    return group_numbers(4 * squares, links)


def strand_count(panel):
    """How many strands a panel has."""
    return group_count(strand_numbers(panel))


def course_ends(panel, i):
    """The ends at which a strand's pieces are left, along its course, i being its least piece."""
    left = [2 * i + 1]
    entered = joined_end(panel, left[-1])
    while entered != 2 * i:
        left.append(entered ^ 1)
        entered = joined_end(panel, left[-1])
    return left


def crossing_strands(panel):
    """For each crossing, by their places, the strand whose piece begins there and the one whose piece ends there."""
    numbers = strand_numbers(panel)
    pairs = []
    for p in crossing_places(panel):
        s = square_before(panel.wide, panel.high, p)
        k = place_side(panel.wide, panel.high, p)
        pairs.append((numbers[end_at(s, k, 0) // 2], numbers[end_at(s, k, 1) // 2]))
    return pairs
