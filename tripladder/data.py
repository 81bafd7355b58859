"""Worlds: switches with their dials, zones with their ways, and what a switch sees."""

from tripladder.errors import NoLevel, NoSwitch, NoZone


def is_number(thing):
    """Whether it is an integer, and no truth."""
    return isinstance(thing, int) and not isinstance(thing, bool)


def is_name(thing):
    """Whether it is a string of 1 to 8 letters a to z."""
    if not isinstance(thing, str) or len(thing) > 8:
        return False
    return thing.isascii() and thing.isalpha() and thing.islower()


def is_row(thing, size):
    """Whether it is a tuple with so many members."""
    return isinstance(thing, tuple) and len(thing) == size


def is_filled(thing):
    """Whether it is a tuple with at least one member."""
    return isinstance(thing, tuple) and len(thing) > 0


def is_ascending(names):
    """Whether each name stands behind the one ahead of it, without duplicates."""
    return all([ahead < name for ahead, name in zip(names, names[1:])])


def is_step(thing):
    """Whether it is a triple (level, early, late) of some curve."""
    if not is_row(thing, 3) or not all([is_number(part) for part in thing]):
        return False
    level, early, late = thing
    return level >= 1 and 1 <= early <= late


def may_follow(ahead, step):
    """Whether the step may stand behind the one ahead: a higher level, and never slower."""
    return ahead[0] < step[0] and step[1] <= ahead[1] and step[2] <= ahead[2]


def is_curve(thing):
    """Whether it is a CURVE."""
    if not isinstance(thing, tuple) or not all([is_step(step) for step in thing]):
        return False
    return all([may_follow(ahead, step) for ahead, step in zip(thing, thing[1:])])


def is_no_later(pair, early, late):
    """Whether a band comes, and both its ends by these ticks."""
    return pair is not None and pair[0] <= early and pair[1] <= late


def may_be_next(ahead, later):
    """Whether at no level the later curve opens earlier than the one ahead."""
    # From one of its triples to the next the later curve keeps its band, while the one ahead
    # can only become quicker: so the levels of the later triples tell all.
    return all([is_no_later(band(ahead, level), early, late) for level, early, late in later])


def is_dials(thing):
    """Whether it is a non-empty tuple of CURVEs, none of which opens earlier than one ahead."""
    if not is_filled(thing) or not all([is_curve(curve) for curve in thing]):
        return False
    return all([may_be_next(ahead, later) for ahead, later in zip(thing, thing[1:])])


def is_switch(thing):
    """Whether it is a SWITCH."""
    return is_row(thing, 2) and is_name(thing[0]) and is_dials(thing[1])


def is_link(thing, names):
    """Whether it is a pair (switch, more) with one of these switches."""
    return is_row(thing, 2) and thing[0] in names and is_number(thing[1])


def is_way(thing, names):
    """Whether it is a non-empty tuple of pairs (switch, more)."""
    return is_filled(thing) and all([is_link(link, names) for link in thing])


def is_ways(thing, names):
    """Whether it is a non-empty tuple of WAYs, no switch twice in all of them."""
    if not is_filled(thing) or not all([is_way(way, names) for way in thing]):
        return False
    used = [link[0] for way in thing for link in way]
    return len(set(used)) == len(used)


def is_zone(thing, names):
    """Whether it is a ZONE of a world that has the switches with these names."""
    if not is_row(thing, 5) or not is_name(thing[0]):
        return False
    name, low, high, limit, ways = thing
    if not all([is_number(part) for part in (low, high, limit)]):
        return False
    return 1 <= low <= high and limit >= 1 and is_ways(ways, names)


def names_of(rows):
    """The names of switches or of zones, in order."""
    return [row[0] for row in rows]


def is_world(thing):
    """Whether it is a WORLD."""
    if not is_row(thing, 2):
        return False
    switches, zones = thing
    if not isinstance(switches, tuple) or not all([is_switch(switch) for switch in switches]):
        return False
    names = names_of(switches)
    if not isinstance(zones, tuple) or not all([is_zone(zone, names) for zone in zones]):
        return False
    return is_ascending(names) and is_ascending(names_of(zones))


def is_dial(thing, dials):
    """Whether it is the number of one of the dials."""
    return is_number(thing) and 0 <= thing < len(dials)


def is_setting(world, thing):
    """Whether it is a SETTING of the world."""
    switches = world[0]
    if not is_row(thing, len(switches)):
        return False
    return all([is_dial(part, switch[1]) for part, switch in zip(thing, switches)])


def check_switches(world, names):
    """Raise NoSwitch for the first of the names that is no switch."""
    known = names_of(world[0])
    for name in names:
        if name not in known:
            raise NoSwitch(name)


def band(curve, level):
    """The pair (early, late) at a level that is seen; None if it never opens."""
    found = None
    for start, early, late in curve:
        if start <= level:
            found = (early, late)
    return found


def zone_at(world, zone, level):
    """The ZONE with this name, which must have a fault with this level."""
    for row in world[1]:
        if row[0] == zone:
            if not row[1] <= level <= row[2]:
                raise NoLevel(level)
            return row
    raise NoZone(zone)


def sees(world, zone, level):
    """For each way of the zone the list of the pairs (switch, level that it sees)."""
    ways = zone_at(world, zone, level)[4]
    return [[(name, level + more) for name, more in way] for way in ways]


def opens(world, setting, name, level):
    """The band of a switch that sees this level, with its dial of the setting."""
    for at, switch in enumerate(world[0]):
        if switch[0] == name:
            return band(switch[1][setting[at]], level)
    raise NoSwitch(name)
