"""Weaves: for each crossing which of its strands is over."""

from knotpanels.grouping import group_count
from knotpanels.panels import CROSSING, crossing_places, place_at
from knotpanels.strands import course_ends, end_side, strand_numbers


def is_weave(panel, w):
    """Whether w tells a bit for each of the panel's crossings."""
    return len(w) == panel.stands.count(CROSSING) and max(w, default=0) <= 1


def overs_on(panel, weave, i):
    """At each crossing that a strand passes, along its course, whether it's over; i is its least piece."""
    bits = dict(zip(crossing_places(panel), weave))
    found = []
    for e in course_ends(panel, i):
        p = place_at(panel.wide, panel.high, e // 8, end_side(e))
        if p in bits:
            found.append(bits[p] != e % 2)
    return found


def takes_turns(panel, weave):
    """Whether over and under follow one another along every strand."""
    numbers = strand_numbers(panel)
    for k in range(group_count(numbers)):
        overs = overs_on(panel, weave, numbers.index(k))
        for i in range(len(overs)):
            # The first one's neighbour is the last, for strands come back to where they begin.
            if overs[i] == overs[i - 1]:
                return False
    return True
