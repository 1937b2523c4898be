"""How many panels of a size there are that aren't alike."""

from knotpanels.grouping import group_count, group_numbers
from knotpanels.motions import MOTIONS, moved_wide, places_to


def power(base, exponent):
    """base multiplied by itself so many times."""
    product = 1
    for factor in range(exponent):
        product *= base
    return product


def kept_count(wide, high, m, kinds):
    """How many panels of this size and kinds motion m keeps.

    Just those with one kind all along each round of places that go to one another.
    """
    targets = places_to(wide, high, m)
    rounds = group_numbers(len(targets), list(enumerate(targets)))
    return power(kinds, group_count(rounds))


def unlike_count(wide, high, kinds):
    """How many panels of this size and kinds there are no two of which are alike.

    Only motions that keep the size count. Summed over these, the keepings of
    all panels alike to one come to as many as there are such motions, so the
    sum over all panels is to be divided by just that (Burnside's lemma).
    """
    motions = [m for m in range(MOTIONS) if moved_wide(wide, high, m) == wide]
    return sum([kept_count(wide, high, m, kinds) for m in motions]) // len(motions)


def number_bytes(n):
    """A number's bytes, the lowest first, none of nought at the end."""
    told = []
    while n > 0:
        told.append(n % 256)
        n = n // 256
    return told
