"""Diagrams: with which point each is joined in what is open at its left and right sides.

What is high squares high has 2 high left points, and behind these 2 high
right points.
"""

from knotpanels.panels import ALONG, CROSSING, LEFT, RIGHT
from knotpanels.strands import end_at, joined_end


# joined tells for each point the one that it's joined with, closed how many strands go in nowhere.
class Diagram:
    def __init__(self, joined, closed):
        self.joined = joined
        self.closed = closed


def last_end(first, across, onward, reached):
    """The end at which a strand is left last that goes in at the first: it's open, or joined with the first.

    All ends on the way are marked as reached.
    """
    reached[first] = True
    last = across[first]
    reached[last] = True
    while onward[last] is not None and onward[last] != first:
        entered = onward[last]
        reached[entered] = True
        last = across[entered]
        reached[last] = True
    return last


def traced(across, onward, points):
    """The diagram of what has these points.

    Strands go by turns from an end across to the other end there, and onward
    to the one joined with it. Points are the ends with none joined, None.
    """
    reached = [False] * len(across)
    joined = []
    for e in points:
        joined.append(points.index(last_end(e, across, onward, reached)))
    closed = 0
    for e in range(len(across)):
        # What goes in somewhere has been reached from its points.
        if not reached[e]:
            last_end(e, across, onward, reached)
            closed += 1
    return Diagram(joined, closed)


def side_ends(panel, x, k):
    """The ends at side k of the squares of column x, row by row, of the piece that begins there first."""
    return [end_at(i // 2 * panel.wide + x, k, i % 2) for i in range(2 * panel.high)]


def panel_diagram(panel):
    """The diagram of a panel that is open at its left and right sides."""
    points = side_ends(panel, 0, LEFT) + side_ends(panel, panel.wide - 1, RIGHT)
    ends = 8 * panel.wide * panel.high
    # A piece's two ends stand side by side, the even one first.
    across = [e + 1 - 2 * (e % 2) for e in range(ends)]
    onward = [None if e in points else joined_end(panel, e) for e in range(ends)]
    return traced(across, onward, points)


def tie(onward, one, other):
    """Join two ends with each other."""
    onward[one] = other
    onward[other] = one


def join_between(onward, right, left, between):
    """Join right points with left points, those beyond, as what stands between has it."""
    for y in range(len(between)):
        begins = 2 * y
        ends = 2 * y + 1
        if between[y] == ALONG:
            tie(onward, right[begins], right[ends])
            tie(onward, left[begins], left[ends])
        elif between[y] == CROSSING:
            tie(onward, right[begins], left[begins])
            tie(onward, right[ends], left[ends])
        else:
            tie(onward, right[begins], left[ends])
            tie(onward, right[ends], left[begins])


def put_behind(first, second, between):
    """The diagram of the first and, behind what stands between, the second."""
    half = 2 * len(between)
    # The second's points are numbered behind all of the first's.
    across = first.joined + [2 * half + point for point in second.joined]
    onward = [None] * (4 * half)
    join_between(onward, list(range(half, 2 * half)), list(range(2 * half, 3 * half)), between)
    met = traced(across, onward, list(range(half)) + list(range(3 * half, 4 * half)))
    return Diagram(met.joined, first.closed + second.closed + met.closed)


def strands_round(diagram, between):
    """How many strands there are if right points lead through what stands between to the left ones."""
    half = 2 * len(between)
    onward = [None] * (2 * half)
    join_between(onward, list(range(half, 2 * half)), list(range(half)), between)
    return diagram.closed + traced(diagram.joined, onward, []).closed
