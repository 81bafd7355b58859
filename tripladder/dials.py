"""Dials: the settings that are good, and why there are none."""

from itertools import combinations

from tripladder.data import check_switches, is_filled, is_number, is_row, names_of
from tripladder.first import is_rash, is_unfit
from tripladder.rules import climb, good_ones, is_fit, looks, needs_of, rules_of
from tripladder.rules import settled, settled_without, sunk, tops_of


def dials_of(world, setting):
    """The dict that has for each switch its dial of the setting."""
    return dict(zip(names_of(world[0]), setting))


def bottom(world):
    """The dict that has dial 0 for each switch."""
    return {name: 0 for name in names_of(world[0])}


def least_setting(world):
    """The good setting with the least dials; None if none is good."""
    return settled(rules_of(world), bottom(world))


def greatest_setting(world):
    """The good setting with the greatest dials; None if none is good."""
    return sunk(rules_of(world))


def how_many(world):
    """How many settings are good."""
    return len(good_ones(rules_of(world)))


def raised(world, setting):
    """The least good setting in which no dial is less than in this one; None if there is none."""
    return settled(rules_of(world), dials_of(world, setting))


def held(world, setting, names):
    """The least good setting in which each of the names has its dial of this one; None if there is none."""
    check_switches(world, names)
    given = dials_of(world, setting)
    free = [name for name in given if name not in names]
    return settled_without(rules_of(world), given, free)


def nearest_good(world, setting):
    """The pair (number of changes, good setting) with the fewest changes; (None, None) if none is good."""
    rules = rules_of(world)
    given = dials_of(world, setting)
    names = names_of(world[0])
    for many in range(len(names) + 1):
        found = [settled_without(rules, given, free) for free in combinations(names, many)]
        good = [dials for dials in found if dials is not None]
        if good:
            return many, min(good)
    return None, None


def fewest_changes(world, setting):
    """The least number of dials that must be changed for a good setting; None if none is good."""
    return nearest_good(world, setting)[0]


def changed(world, setting):
    """The least good setting with so few changes; None if none is good."""
    return nearest_good(world, setting)[1]


def place_of_raise(rows, need):
    """A place at which the need asks for its dial."""
    nearest, own, other, dial = need
    found = []
    for place, limit, sights in rows:
        bands = dict(sights)
        if sights[0][0] == nearest and other in bands and is_rash(bands[other][dial - 1], bands[nearest][own]):
            found.append(place)
    return found[0]


def last_steps(rows, dials):
    """The STEP of a nearest that is not fit with its dial, in a list; [] if there is none."""
    for place, limit, sights in rows:
        nearest, bands = sights[0]
        dial = dials[nearest]
        if dial < len(bands) and is_unfit(bands[dial], limit):
            return [(*place, nearest, dial)]
    return []


def chain(world):
    """A CHAIN that tells why no setting is good; None if some setting is good."""
    rows = looks(world)
    tops = tops_of(world, rows)
    dials, raises = climb((tops, needs_of(rows)), bottom(world))
    if is_fit(tops, dials):
        return None
    steps = [(*place_of_raise(rows, need), need[2], need[3]) for need in raises]
    # Climbing ends with the first dial that is not fit: if its switch has it not any more, the
    # raise to it is the last step already.
    return tuple(steps + last_steps(rows, dials))


def is_worded(thing):
    """Whether it is a tuple (zone, level, way, switch, dial) of strings and numbers."""
    if not is_row(thing, 5) or not all([is_number(thing[at]) for at in (1, 2, 4)]):
        return False
    return isinstance(thing[0], str) and isinstance(thing[3], str)


def is_forced(limit, sights, own, switch, dial):
    """Whether a STEP with this switch and dial holds, if it leans on the dial `own`."""
    bands = dict(sights)
    nearest = sights[0][0]
    if switch not in bands:
        return False
    ticks = bands[nearest][own]
    if switch == nearest:
        return dial == own and is_unfit(ticks, limit)
    if not 1 <= dial <= len(bands[switch]):
        return False
    return ticks is None or is_rash(bands[switch][dial - 1], ticks)


def is_chain(world, thing):
    """Whether it is a CHAIN of the world."""
    if not is_filled(thing):
        return False
    views = {place: (limit, sights) for place, limit, sights in looks(world)}
    counts = {name: len(curves) for name, curves in world[0]}
    leans = {}
    for at, step in enumerate(thing):
        if not is_worded(step) or step[:3] not in views:
            return False
        limit, sights = views[step[:3]]
        nearest, switch, dial = sights[0][0], step[3], step[4]
        if not is_forced(limit, sights, leans.get(nearest, 0), switch, dial):
            return False
        ends = switch == nearest or dial == counts[switch]
        if ends != (at == len(thing) - 1):
            return False
        leans[switch] = dial
    return True


def may_spoil(bands, owns):
    """Whether one with these bands spoils for some dials of it and of the nearest."""
    return any([is_rash(ticks, own) for ticks in bands for own in owns])


def waits(world):
    """The pairs (nearest, other) of which the other one spoils for some dials, ascending."""
    found = []
    for place, limit, sights in looks(world):
        nearest, owns = sights[0]
        found.extend([(nearest, other) for other, bands in sights[1:] if may_spoil(bands, owns)])
    return sorted(set(found))


def has_round(pairs):
    """Whether some of the pairs lead from one to the next and back to the first."""
    left = pairs
    while left:
        heads = [nearest for nearest, other in left]
        kept = [(nearest, other) for nearest, other in left if other in heads]
        if len(kept) == len(left):
            return True
        left = kept
    return False


def is_cut(pairs, names):
    """Whether each round of the pairs goes through one of the names."""
    return not has_round([pair for pair in pairs if pair[0] not in names and pair[1] not in names])


def first_ones(world):
    """The fewest switches through which each round of waits goes, of several the least ones."""
    pairs = waits(world)
    names = names_of(world[0])
    found = []
    for many in range(len(names) + 1):
        found.extend([some for some in combinations(names, many) if is_cut(pairs, some)])
    return found[0]
