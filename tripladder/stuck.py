"""Stuck ones, and the dark: what is open behind a fault if some switches never open."""

from tripladder.data import check_switches, names_of, zone_at
from tripladder.first import first_sets


def stuck_world(world, stuck):
    """The world in which these switches never open, whatever they see: each of their dials is ()."""
    switches = [(name, [() for curve in dials] if name in stuck else dials) for name, dials in world[0]]
    return switches, world[1]


def after(world, setting, zone, level, stuck):
    """The tuples of all switches that are open behind the fault in some case, ascending."""
    ways = zone_at(world, zone, level)[4]
    check_switches(world, stuck)
    weak = stuck_world(world, stuck)
    found = [()]
    for way in range(len(ways)):
        # Ways open independently of one another, and no switch stands on two ways of a zone.
        sets = first_sets(weak, setting, zone, level, way)
        found = [(*names, *more) for names in found for more in sets]
    return sorted([tuple(sorted(names)) for names in found])


def is_dark(ways, names):
    """Whether each of the ways has one of these switches."""
    return all([any([name in names for name, more in way]) for way in ways])


def dark(world, names):
    """The zones each of whose ways has one of these switches, ascending."""
    check_switches(world, names)
    return [row[0] for row in world[1] if is_dark(row[4], names)]


def dark_cases(world, setting, zone, level, stuck):
    """For each case behind the fault the list of the zones that are dark."""
    return [dark(world, names) for names in after(world, setting, zone, level, stuck)]


def may_dark(world, setting, zone, level, stuck):
    """The zones that are dark behind the fault in some case, ascending."""
    cases = dark_cases(world, setting, zone, level, stuck)
    return [name for name in names_of(world[1]) if any([name in zones for zones in cases])]


def must_dark(world, setting, zone, level, stuck):
    """The zones that are dark behind the fault in all cases, ascending."""
    cases = dark_cases(world, setting, zone, level, stuck)
    return [name for name in names_of(world[1]) if all([name in zones for zones in cases])]


def worst_stuck(world, setting, zone, level):
    """The greatest number of zones that may be dark if one switch sticks, and the least such switch."""
    ways = zone_at(world, zone, level)[4]
    names = sorted([name for way in ways for name, more in way])
    counts = [len(may_dark(world, setting, zone, level, (name,))) for name in names]
    most = max(counts)
    return most, names[counts.index(most)]
