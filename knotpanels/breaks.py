"""Groups of strands that cross, and breaks that leave one strand of each."""

from knotpanels.cards import Card
from knotpanels.grouping import group_count, group_numbers
from knotpanels.panels import ACROSS, CROSSING, Panel, crossing_places
from knotpanels.strands import crossing_strands, strand_count


def strand_groups(panel):
    """How many groups a panel's strands have."""
    return group_count(group_numbers(strand_count(panel), crossing_strands(panel)))


def fewest_crossings(panel):
    """The places of the fewest crossings by whose breaks no more strands than groups are left.

    Those at which two strands hang together that didn't yet are just as many
    as there are strands more than groups, so none is left out in the end.
    """
    places = crossing_places(panel)
    pairs = crossing_strands(panel)
    belongs = list(range(strand_count(panel)))
    taken = []
    for n in range(len(places)):
        one = belongs[pairs[n][0]]
        other = belongs[pairs[n][1]]
        if one != other:
            taken.append(places[n])
            belongs = [one if number == other else number for number in belongs]
    return taken


def finished_card(panel):
    """The panel finished."""
    stands = list(panel.stands)
    for p in fewest_crossings(panel):
        stands[p] = ACROSS
    # With one bit for all, a strand that's over is under next: it leaves pieces
    # by their ends and by their beginnings in turn, from crossing to crossing.
    return Card(Panel(panel.wide, panel.high, stands), [0] * stands.count(CROSSING))
