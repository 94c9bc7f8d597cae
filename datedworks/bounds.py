"""What holds in all ways of dating together, where there is at least one.

works and evidence are laid out as the module ways tells.
"""

from datedworks.ways import FOLLOWS, NOT_BEFORE, WITHIN, earliest_days, latest_days

SURELY_LATER = 1
NOT_EARLIER = 2
ONE_DAY = 3
NOT_LATER = 4
SURELY_EARLIER = 5
OPEN_ORDER = 6

NO_WAY_MEETS = 0
EACH_WAY_MEETS = 1
SOME_WAYS_MEET = 2


def greatest_distance(works, evidence, u, v):
    """The greatest of "the day of v minus the day of u"."""
    # Evidence between the works bounds the distance alike wherever u lies, and the latest day of v bounds it least
    # where u is at its earliest: so with u there v can be as far behind it as in any way of dating.
    earliest = earliest_days(works, evidence)[u]
    fixed = dict(works)
    fixed[u] = (earliest, earliest)
    return latest_days(fixed, evidence)[v] - earliest


def distances(works, evidence, u, v):
    """The least and the greatest of "the day of v minus the day of u"."""
    return (-greatest_distance(works, evidence, v, u), greatest_distance(works, evidence, u, v))


def order_of(least, greatest):
    """How v lies to u, by the distances from u to v."""
    if least == 0 and greatest == 0:
        return ONE_DAY
    if least > 0:
        return SURELY_LATER
    if least == 0:
        return NOT_EARLIER
    if greatest < 0:
        return SURELY_EARLIER
    return NOT_LATER if greatest == 0 else OPEN_ORDER


def spoken_of(works, evidence, kind, u, v):
    """The least and the greatest of what evidence of this kind bounds: the day of u, or the distance from u to v."""
    if kind == FOLLOWS or kind == WITHIN:
        return distances(works, evidence, u, v)
    return (earliest_days(works, evidence)[u], latest_days(works, evidence)[u])


def verdict(works, evidence, kind, u, v, amount):
    """Whether the ways of dating meet a piece of evidence that isn't among the evidence."""
    bounds = spoken_of(works, evidence, kind, u, v)
    if kind == NOT_BEFORE or kind == FOLLOWS:
        is_met_by_all = bounds[0] >= amount
        is_met_by_some = bounds[1] >= amount
    else:
        is_met_by_all = bounds[1] <= amount
        is_met_by_some = bounds[0] <= amount
    if is_met_by_all:
        return EACH_WAY_MEETS
    return SOME_WAYS_MEET if is_met_by_some else NO_WAY_MEETS
