"""The calls of the interlace artist's desk.

Each gives back one list: the answer, then what else is told. A refusal is
its number alone.
"""

from knotpanels.motions import MOTIONS, least_motion, motions_between, moved_bytes
from knotpanels.panels import is_panel, read_panel

MOST_LONG = 1024

RIGHT_SO_FAR = 0
OUT_OF_RANGE = -1
TOO_LONG = -2
NO_PANEL = -6


def panels_refused(given):
    """The refusal of the bytes given, or 0 if each is a right panel's.

    None may be judged as a panel before all are known to be short enough.
    """
    for b in given:
        if len(b) > MOST_LONG:
            return TOO_LONG
    for b in given:
        if not is_panel(b):
            return NO_PANEL
    return RIGHT_SO_FAR


def moved(m, b):
    """How many bytes the panel has that's moved by motion m; they."""
    refused = panels_refused([b])
    if refused != RIGHT_SO_FAR:
        return [refused]
    if m >= MOTIONS:
        return [OUT_OF_RANGE]
    told = moved_bytes(read_panel(b), m)
    return [len(told)] + told


def keeps(b):
    """How many motions keep the panel; for each motion 1 if it does, else 0."""
    refused = panels_refused([b])
    if refused != RIGHT_SO_FAR:
        return [refused]
    panel = read_panel(b)
    keeping = motions_between(panel, panel)
    return [len(keeping)] + [1 if m in keeping else 0 for m in range(MOTIONS)]


def form(b):
    """How many bytes the least form has; the first motion that gives it; they."""
    refused = panels_refused([b])
    if refused != RIGHT_SO_FAR:
        return [refused]
    panel = read_panel(b)
    m = least_motion(panel)
    told = moved_bytes(panel, m)
    return [len(told), m] + told


def same(b, c):
    """1 and the first motion by which the first panel is the second; else 0."""
    refused = panels_refused([b, c])
    if refused != RIGHT_SO_FAR:
        return [refused]
    leading = motions_between(read_panel(b), read_panel(c))
    if len(leading) == 0:
        return [0]
    return [1, leading[0]]
