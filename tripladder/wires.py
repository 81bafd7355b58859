"""Wires: by which of them some switches tell others to wait, so that the nearest opens alone.

In this file rows are those of all_ways: ((zone, level, way), limit, pairs (switch, band)).
"""

from itertools import combinations

from tripladder.data import check_switches, names_of
from tripladder.first import all_ways, spoilt_in


def check_wires(world, wires):
    """Raise NoSwitch for the first lower or upper one that is no switch."""
    check_switches(world, [name for lower, upper, ticks in wires for name in (lower, upper)])


def delay(wires, ahead, name):
    """By how many ticks a switch opens later, if these ahead of it on its way open."""
    return max([ticks for lower, upper, ticks in wires if upper == name and lower in ahead], default=0)


def delayed(wires, pairs):
    """The pairs (switch, band) of a way, with the bands that they have by the wires."""
    ahead = []
    found = []
    for name, ticks in pairs:
        if ticks is None:
            found.append((name, None))
        else:
            more = delay(wires, ahead, name)
            found.append((name, (ticks[0] + more, ticks[1] + more)))
            ahead.append(name)
    return found


def spoilt_with(rows, wires):
    """The tuples (zone, level, way, switch) of those that spoil with the wires, ascending."""
    return spoilt_in([(place, limit, delayed(wires, pairs)) for place, limit, pairs in rows])


def spoilt_by(world, setting, wires):
    """The tuples (zone, level, way, switch) of those that spoil with the wires, ascending."""
    check_wires(world, wires)
    return spoilt_with(all_ways(world, setting), wires)


def spoils(rows, wires, name):
    """Whether this switch spoils anything with the wires."""
    return name in [row[3] for row in spoilt_with(rows, wires)]


def wires_to(rows, lowers, upper, ticks):
    """The fewest wires to the upper one by which it spoils nothing, of several the least; None if there are none."""
    for many in range(len(lowers) + 1):
        for some in combinations(lowers, many):
            wires = [(lower, upper, ticks) for lower in some]
            if not spoils(rows, wires, upper):
                return wires
    return None


def fewest_wires(world, setting, ticks):
    """The fewest wires with these ticks by which nothing is spoilt, of several the least; None if there are none."""
    rows = all_ways(world, setting)
    names = names_of(world[0])
    found = []
    # What a switch spoils hangs on the wires to it alone. So the fewest of all are the fewest to each
    # one together, and likewise the least: it is the least wire in which two choices differ that
    # tells which of them is less, and this one is a wire to one of the switches.
    for upper in names:
        wires = wires_to(rows, [name for name in names if name != upper], upper, ticks)
        if wires is None:
            return None
        found.extend(wires)
    return tuple(sorted(found))


def needed(world, setting, wires):
    """The wires without which alone something is spoilt."""
    check_wires(world, wires)
    rows = all_ways(world, setting)
    kept = [tuple(wire) for wire in wires]
    return [wire for at, wire in enumerate(kept) if spoilt_with(rows, kept[:at] + kept[at + 1:])]
