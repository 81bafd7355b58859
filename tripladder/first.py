"""Who is first: which switches of a way open at a fault, and what spoils a setting.

In the rows of this file a switch that opens is a triple (name, early, late).
"""

from tripladder.data import opens, sees
from tripladder.errors import NoWay


def seen_bands(world, setting, seen):
    """The pairs (switch, band) for pairs (switch, level that it sees), in their order."""
    return [(name, opens(world, setting, name, level)) for name, level in seen]


def openers(world, setting, zone, level, way):
    """The switches of the way that open at all, ascending."""
    ways = sees(world, zone, level)
    if not 0 <= way < len(ways):
        raise NoWay(way)
    pairs = seen_bands(world, setting, ways[way])
    return sorted([(name, ticks[0], ticks[1]) for name, ticks in pairs if ticks is not None])


def least_late(rows):
    """The tick by which one of them has opened, whatever happens; None if there are none."""
    return min([late for name, early, late in rows], default=None)


def may_open(world, setting, zone, level, way):
    """The switches that are among the first ones in some case, ascending."""
    rows = openers(world, setting, zone, level, way)
    end = least_late(rows)
    return [name for name, early, late in rows if early <= end]


def is_always_first(row, rows):
    """Whether no other one can open ahead of it."""
    return all([row[2] <= other[1] for other in rows if other[0] != row[0]])


def must_open(world, setting, zone, level, way):
    """The switches that are among the first ones in all cases, ascending."""
    rows = openers(world, setting, zone, level, way)
    return [row[0] for row in rows if is_always_first(row, rows)]


def is_maybe_alone(row, rows):
    """Whether each other one can open behind it."""
    return all([row[1] < other[2] for other in rows if other[0] != row[0]])


def may_alone(world, setting, zone, level, way):
    """The switches that are the only first one in some case, ascending."""
    rows = openers(world, setting, zone, level, way)
    return [row[0] for row in rows if is_maybe_alone(row, rows)]


def is_always_alone(row, rows):
    """Whether each other one can only open behind it."""
    return all([row[2] < other[1] for other in rows if other[0] != row[0]])


def must_alone(world, setting, zone, level, way):
    """The switches that are the only first one in all cases, ascending."""
    rows = openers(world, setting, zone, level, way)
    return [row[0] for row in rows if is_always_alone(row, rows)]


def subsets(names):
    """All tuples of some of the names, in their order; () is one of them."""
    found = [()]
    for name in names:
        found = found + [(*some, name) for some in found]
    return found


def first_sets(world, setting, zone, level, way):
    """The sets of switches that are the first ones in some case, ascending; [()] if none opens."""
    rows = openers(world, setting, zone, level, way)
    end = least_late(rows)
    if end is None:
        return [()]
    # Ahead of the least late everybody can still wait; at it those with this late cannot.
    ahead = subsets([name for name, early, late in rows if early < end])
    forced = [name for name, early, late in rows if late == end]
    free = [name for name, early, late in rows if early <= end < late]
    found = [names for names in ahead if names]
    found = found + [tuple(sorted([*forced, *names])) for names in subsets(free)]
    return sorted(set(found))


def cut_by(world, setting, zone, level, way):
    """The greatest tick at which some first ones can open; None if none ever opens."""
    return least_late(openers(world, setting, zone, level, way))


def is_unfit(ticks, limit):
    """Whether a nearest with this band spoils: it never opens, or opens behind the limit."""
    return ticks is None or ticks[1] > limit


def is_rash(ticks, own):
    """Whether another one with this band spoils, where the nearest has the band `own`."""
    return ticks is not None and own is not None and ticks[0] <= own[1]


def spoilers(pairs, limit):
    """The switches that spoil a way, from its pairs (switch, band), the nearest ahead."""
    nearest, own = pairs[0]
    found = [name for name, ticks in pairs[1:] if is_rash(ticks, own)]
    if is_unfit(own, limit):
        found.append(nearest)
    return found


def all_ways(world, setting):
    """For each way at each fault a row ((zone, level, way), limit, pairs (switch, band))."""
    found = []
    for zone, low, high, limit, ways in world[1]:
        for level in range(low, high + 1):
            for way, seen in enumerate(sees(world, zone, level)):
                found.append(((zone, level, way), limit, seen_bands(world, setting, seen)))
    return found


def spoilt_in(rows):
    """The tuples (zone, level, way, switch) of those that spoil in such rows, ascending."""
    return sorted([(*place, name) for place, limit, pairs in rows for name in spoilers(pairs, limit)])


def spoilt(world, setting):
    """The tuples (zone, level, way, switch) for each nearest or other one that spoils, ascending."""
    return spoilt_in(all_ways(world, setting))


def is_good(world, setting):
    """Whether at each fault the nearest of each way surely opens alone, and in time."""
    return not spoilt(world, setting)
