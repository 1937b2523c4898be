"""Bands: copies of a unit beside one another, with what stands between in each row."""

from knotpanels.diagrams import panel_diagram, put_behind, strands_round
from knotpanels.panels import ACROSS, ALONG, Panel


def is_between(j, high):
    """Whether j tells for each of so many rows what stands between two copies."""
    return len(j) == high and max(j) <= ACROSS


def copies_diagram(unit, between, n):
    """The diagram of n copies, 1 or more.

    n may be far too large for going from copy to copy, and the order in which
    diagrams are put together doesn't matter: so they are doubled.
    """
    doubled = panel_diagram(unit)
    whole = None
    while n > 0:
        if n % 2 == 1:
            whole = doubled if whole is None else put_behind(whole, doubled, between)
        n = n // 2
        if n > 0:
            doubled = put_behind(doubled, doubled, between)
    return whole


def open_strands(unit, between, n):
    """How many strands the panel of n copies has."""
    # Led round through breaks along alone, strands are turned back as by the border.
    return strands_round(copies_diagram(unit, between, n), [ALONG] * unit.high)


def ring_strands(unit, between, n):
    """How many strands the ring of n copies has."""
    return strands_round(copies_diagram(unit, between, n), between)


def copies_panel(unit, between, n):
    """The panel of n copies."""
    stands = []
    inner = unit.wide - 1
    for y in range(unit.high):
        row = unit.stands[y * inner:(y + 1) * inner]
        for gap in range(n - 1):
            stands.extend(row + [between[y]])
        stands.extend(row)
    uprights = inner * unit.high
    for y in range(unit.high - 1):
        row = unit.stands[uprights + y * unit.wide:uprights + (y + 1) * unit.wide]
        stands.extend(row * n)
    return Panel(n * unit.wide, unit.high, stands)


def coming_round(unit, between):
    """From how many copies on, every how many, diagrams are the same, and how many strands more there are each time.

    What one copy more does to a diagram hangs on what its points are joined
    with alone: so the first that comes again is the one from which on all do.
    """
    once = panel_diagram(unit)
    now = once
    joinings = []
    closings = []
    while now.joined not in joinings:
        joinings.append(now.joined)
        closings.append(now.closed)
        now = put_behind(now, once, between)
    first = joinings.index(now.joined)
    return [first + 1, len(joinings) - first, now.closed - closings[first]]
