"""Groups of strands that cross."""

from knotpanels.grouping import group_count, group_numbers
from knotpanels.strands import crossing_strands, strand_count


def strand_groups(panel):
    """How many groups a panel's strands have."""
    return group_count(group_numbers(strand_count(panel), crossing_strands(panel)))
