"""Heat: which rows of faults open a switch that remembers them.

In this file a PACE is a pair (heat, ticks): what a heater gains in each tick of a fault, and for
how many ticks.
"""

from tripladder.data import sees, zone_at
from tripladder.first import cut_by


def heat_at(steps, level):
    """The heat of the last step whose level is not greater; 0 if there is none."""
    found = 0
    for start, heat in steps:
        if start <= level:
            found = heat
    return found


def paces(world, setting, heaters, zone, level):
    """The PACE of each heater at a fault."""
    lasting = {}
    for way, seen in enumerate(sees(world, zone, level)):
        ticks = cut_by(world, setting, zone, level, way)
        for name, sight in seen:
            lasting[name] = (sight, ticks)
    found = []
    for switch, room, steps, cools in heaters:
        sight, ticks = lasting.get(switch, (0, 0))
        found.append((heat_at(steps, sight), ticks))
    return found


def melting(heaters, state, speeds):
    """The switch that melts first in a fault, from these heats at these paces; None if none does."""
    found = []
    for (switch, room, steps, cools), held, (heat, ticks) in zip(heaters, state, speeds):
        if held + heat * ticks >= room:
            # The tick is the rest of the room over the heat, rounded up.
            found.append(((room - held + heat - 1) // heat, switch))
    return min(found)[1] if found else None


def cooled(heaters, state, pause):
    """The heats behind a pause."""
    return tuple([max(0, held - heater[3] * pause) for heater, held in zip(heaters, state)])


def check_row(world, row):
    """Raise NoZone or NoLevel for the first triple that names no fault."""
    for zone, level, pause in row:
        zone_at(world, zone, level)


def zeros(heaters):
    """The heats at the beginning."""
    return tuple([0 for heater in heaters])


def run(world, setting, heaters, row, start):
    """The triple (heats fault by fault, what melts or None, heats behind the last pause)."""
    check_row(world, row)
    state = start
    found = []
    for at, (zone, level, pause) in enumerate(row):
        speeds = paces(world, setting, heaters, zone, level)
        switch = melting(heaters, state, speeds)
        if switch is not None:
            return found, (at, switch), state
        state = tuple([held + heat * ticks for held, (heat, ticks) in zip(state, speeds)])
        found.append(state)
        state = cooled(heaters, state, pause)
    return found, None, state


def heats(world, setting, heaters, row):
    """The heats when each fault is over, up to the one at which something melts."""
    return run(world, setting, heaters, row, zeros(heaters))[0]


def melt(world, setting, heaters, row):
    """The pair (number of the fault, switch) at which something melts; None if nothing does."""
    return run(world, setting, heaters, row, zeros(heaters))[1]


def gains(world, setting, heaters):
    """For each heater the greatest heat that one fault brings to it."""
    found = [0 for heater in heaters]
    for zone, low, high, limit, ways in world[1]:
        for level in range(low, high + 1):
            speeds = paces(world, setting, heaters, zone, level)
            found = [max(most, heat * ticks) for most, (heat, ticks) in zip(found, speeds)]
    return found


def never(world, setting, heaters, pause):
    """Whether nothing melts by any row whose pauses are at least so long."""
    mosts = gains(world, setting, heaters)
    rows = list(zip(heaters, mosts))
    return all([most < heater[1] and most <= heater[3] * pause for heater, most in rows])


def fewest_faults(room, most, loss):
    """By how many faults that bring the most heat, with such a loss between them, the room is reached."""
    if most >= room:
        return 1
    if most <= loss:
        return None
    # Each fault behind the first one adds what the pause ahead of it does not take away.
    gain = most - loss
    return 1 + (room - most + gain - 1) // gain


def shortest(world, setting, heaters, pause):
    """The least number of faults, with just such pauses, by which something melts; None if none do."""
    mosts = gains(world, setting, heaters)
    found = [fewest_faults(heater[1], most, heater[3] * pause) for heater, most in zip(heaters, mosts)]
    return min([many for many in found if many is not None], default=None)


def pause_for(room, most, cools):
    """The least pause behind which such a heater is cold again; None if it melts all the same."""
    if most == 0:
        return 0
    if most >= room or cools == 0:
        return None
    return (most + cools - 1) // cools


def least_pause(world, setting, heaters):
    """The least pause for which nothing ever melts; None if there is none."""
    mosts = gains(world, setting, heaters)
    found = [pause_for(heater[1], most, heater[3]) for heater, most in zip(heaters, mosts)]
    return None if None in found else max(found, default=0)


def forever(world, setting, heaters, row):
    """Whether nothing melts if the row is repeated without end."""
    # A whole row turns a heat x into the greater one of x + s and c, s and c numbers of the row and
    # the heater. So if the second time ends as the first one did, each later time does, too; if it
    # ends hotter, s is above 0, and the heat grows until it melts.
    _, ahead, once = run(world, setting, heaters, row, zeros(heaters))
    _, behind, twice = run(world, setting, heaters, row, once)
    return ahead is None and behind is None and once == twice
