"""Strands: pieces that hang together by joined ends."""

from knotpanels.grouping import group_numbers
from knotpanels.panels import ALONG, CROSSING, square_beyond, stands_at


def end_at(s, k, ending):
    """At side k of square s the end of the piece that begins (ending 0) or ends (1) there."""
    if ending == 0:
        return 8 * s + 2 * k
    return 8 * s + 2 * ((k + 3) % 4) + 1


def joined_end(panel, e):
    """The end with which end e is joined."""
    s = e // 8
    ending = e % 2
    k = ((e % 8) // 2 + ending) % 4
    stand = stands_at(panel, s, k)
    if stand == ALONG:
        return end_at(s, k, 1 - ending)
    beyond = square_beyond(panel.wide, s, k)
    facing = (k + 2) % 4
    if stand == CROSSING:
        return end_at(beyond, facing, ending)
    return end_at(beyond, facing, 1 - ending)


def strand_numbers(panel):
    """For each piece the number of its strand."""
    squares = panel.wide * panel.high
    links = [(e // 2, joined_end(panel, e) // 2) for e in range(8 * squares)]
    return group_numbers(4 * squares, links)
