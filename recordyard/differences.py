"""Whether two judged yards are alike for all records."""

from recordyard.cuts import bounding, mentioned
from recordyard.grounds import Ground
from recordyard.judging import refuse_strange
from recordyard.sights import sight_of


def difference(one, other):
    """The least record whose outcomes at two yards are different, or None."""
    yards = [one, other]
    refuse_strange(yards)
    sight = sight_of(one)
    ground = Ground(sight, sight_of(other), mentioned(yards), bounding(yards))
    return ground.least(sight)


def alike(one, other):
    """Whether two yards are alike for all records."""
    return difference(one, other) is None
