"""Worlds that several tests use, and ways to make and to change values."""

import itertools
import random

HOUSE = (
    (("a", (((1, 1, 2),),)),
     ("b", (((1, 2, 3),), ((1, 3, 4),), ((1, 5, 6),))),
     ("c", (((1, 2, 3),), ((1, 4, 5),), ((1, 6, 7),)))),
    (("attic", 1, 3, 9, ((("a", 0), ("b", 0), ("c", 2)),)),
     ("hall", 1, 3, 9, ((("b", 0), ("c", 0)),))))

# Two ways, a dial that never opens, levels that are too low to be seen, and more below 0.
YARD = (
    (("far", ((), ())),
     ("near", (((2, 5, 7), (4, 2, 3)), ((3, 6, 9),), ())),
     ("slow", (((1, 4, 8),), ((6, 8, 9),)))),
    (("barn", 2, 5, 7, ((("near", 0), ("far", 3)), (("slow", -2),))),
     ("well", 1, 1, 4, ((("far", 0),),))))

TICK = (((1, 1, 1),), ((1, 2, 2),), ((1, 3, 3),))

# Two switches, each of which must wait for the other one.
PAIR = (
    (("p", TICK), ("q", TICK)),
    (("x", 1, 1, 9, ((("p", 0), ("q", 0)),)), ("y", 1, 1, 9, ((("q", 0), ("p", 0)),))))


def one_way(*bands, low=1, high=1, limit=99):
    """The world and setting of one zone "z" with one way, whose switches have these bands.

    The switches are called a, b, .. in the order of the bands; None is a band that never comes.
    """
    names = "abcdefgh"[:len(bands)]
    curves = [() if pair is None else ((1, *pair),) for pair in bands]
    switches = tuple((name, (curve,)) for name, curve in zip(names, curves))
    way = tuple((name, 0) for name in names)
    return (switches, (("z", low, high, limit, (way,)),)), (0,) * len(bands)


def listed(value):
    """The same value with lists for tuples at every depth."""
    if isinstance(value, (tuple, list)):
        return [listed(part) for part in value]
    return value


def tupled(value):
    """The same value with tuples for lists at every depth."""
    if isinstance(value, (tuple, list)):
        return tuple(tupled(part) for part in value)
    return value


def places(value, path=()):
    """The paths to all parts of a value, its own () ahead."""
    yield path
    if isinstance(value, (tuple, list)):
        for at, part in enumerate(value):
            yield from places(part, (*path, at))


def at_place(value, path):
    """The part of a value to which the path leads."""
    for at in path:
        value = value[at]
    return value


def with_part(value, path, part):
    """The value with another part at the path."""
    if not path:
        return part
    rows = list(value)
    rows[path[0]] = with_part(rows[path[0]], path[1:], part)
    return tuple(rows) if isinstance(value, tuple) else rows


def random_curve(source):
    """A CURVE of at most three triples."""
    levels = sorted(source.sample(range(1, 6), source.randint(0, 3)))
    early, width, rows = source.randint(1, 5), source.randint(0, 3), []
    for level in levels:
        rows.append((level, early, early + width))
        early = source.randint(1, early)
        width = source.randint(0, width)
    return tuple(rows)


def tick_at(curve, level):
    """The (early, late) of the last triple whose level is not greater, told in another way."""
    rows = [row for row in curve if row[0] <= level]
    return rows[-1][1:] if rows else None


def is_slower(ahead, later):
    """Whether at no level from below all triples to beyond them the later one is earlier."""
    for level in range(-2, 12):
        first, second = tick_at(ahead, level), tick_at(later, level)
        if second and (not first or first[0] > second[0] or first[1] > second[1]):
            return False
    return True


def random_dials(source):
    """A non-empty tuple of dials as a SWITCH has them."""
    dials = [random_curve(source)]
    for curve in [random_curve(source) for _ in range(4)]:
        if is_slower(dials[-1], curve):
            dials.append(curve)
    return tuple(dials)


def random_zone(source, name, names):
    """A ZONE with one or two ways over these switches."""
    used = source.sample(names, source.randint(1, len(names)))
    cut = source.randint(1, len(used))
    ways = [part for part in (used[:cut], used[cut:]) if part]
    pairs = tuple(tuple((switch, source.randint(-2, 3)) for switch in way) for way in ways)
    low = source.randint(1, 3)
    return name, low, source.randint(low, 4), source.randint(1, 7), pairs


def random_world(seed):
    """A WORLD of up to four switches and three zones, and a SETTING of it."""
    source = random.Random(seed)
    names = sorted(source.sample(["a", "b", "cc", "d", "zz"], source.randint(1, 4)))
    switches = tuple((name, random_dials(source)) for name in names)
    zones = sorted(source.sample(["a", "x", "y"], source.randint(0, 3)))
    world = switches, tuple(random_zone(source, zone, names) for zone in zones)
    return world, tuple(source.randrange(len(dials)) for _, dials in switches)


def ladder(source):
    """Two to four dials, each slower by some ticks than the one ahead; the last one may be ()."""
    early, width, dials = source.randint(1, 3), source.randint(0, 1), []
    for _ in range(source.randint(2, 4)):
        row = ((1, early, early + width),) + ((3, early, early),) * source.randint(0, 1)
        if not dials or is_slower(dials[-1], row):
            dials.append(row)
        early += width + source.randint(0, 2)
    return tuple(dials) + ((),) * (source.random() < 0.2)


def ladder_world(seed):
    """A WORLD of two to four switches that often wait for one another, and a SETTING of it."""
    source = random.Random(seed)
    names = sorted(source.sample(["a", "b", "cc", "d", "zz"], source.randint(2, 4)))
    switches = tuple((name, ladder(source)) for name in names)
    zones = []
    for zone in sorted(source.sample(["a", "x", "y"], source.randint(1, 3))):
        used = source.sample(names, source.randint(2, len(names)))
        ways = [used[:2], used[2:]] if source.random() < 0.3 else [used]
        rows = tuple(tuple((name, source.randint(0, 2)) for name in way) for way in ways if way)
        zones.append((zone, 1, source.randint(1, 2), source.randint(4, 11), rows))
    return (switches, tuple(zones)), tuple(source.randrange(len(dials)) for _, dials in switches)


def large_world(orders=("abcdef", "bcdfae", "cdefab", "aefbcd", "bdecfa", "cfdeba"), high=12, limit=60):
    """A WORLD of 6 switches with 4 dials and of a zone for each order, the first four of it on one way."""
    dials = tuple(((1, 10 * dial + 2, 10 * dial + 4), (5, 10 * dial + 1, 10 * dial + 1)) for dial in range(4))
    zones = []
    for zone, order in zip("rstuvw", orders):
        long = tuple((name, at) for at, name in enumerate(order[:4]))
        zones.append((zone, 1, high, limit, (long, ((order[4], 0),), ((order[5], 99),))))
    return tuple((name, dials) for name in "abcdef"), tuple(zones)


def broad_dials(source):
    """One or two dials that open at each level from 1 on, in bands that often overlap those of others."""
    early, width = source.randint(1, 3), source.randint(0, 3)
    slow = ((1, early + 1, early + width + 1), (3, early, early + width))
    return (((1, early, early + width),), slow)[:source.randint(1, 2)]


def wide_world(seed):
    """A WORLD of three to five switches and two or three zones of up to three ways, and a SETTING of it."""
    source = random.Random(seed)
    names = sorted(source.sample(["a", "b", "cc", "d", "zz"], source.randint(3, 5)))
    make = random_dials if seed % 4 == 0 else broad_dials
    switches = tuple((name, make(source)) for name in names)
    zones = []
    for zone in sorted(source.sample(["a", "x", "y"], source.randint(2, 3))):
        used = source.sample(names, source.randint(1, len(names)))
        cuts = sorted(source.sample(range(1, len(used)), min(source.randint(0, 2), len(used) - 1)))
        parts = [used[low:high] for low, high in zip([0, *cuts], [*cuts, len(used)])]
        ways = tuple(tuple((name, source.randint(-2, 3)) for name in part) for part in parts)
        low = source.randint(1, 3)
        zones.append((zone, low, source.randint(low, 4), source.randint(1, 7), ways))
    return (switches, tuple(zones)), tuple(source.randrange(len(dials)) for _, dials in switches)


def curves_of(world, setting):
    """The dict that has for each switch the curve of its dial."""
    return {name: dials[dial] for (name, dials), dial in zip(world[0], setting)}


def some_of(source, names):
    """An ascending tuple of some of the names."""
    return tuple(sorted(source.sample(names, source.randint(0, len(names)))))


def first_cases(curves, way, level, stuck):
    """The sets of first ones of a way, as tuples in its order, by going through all ticks of all bands."""
    bands = {name: tick_at(curves[name], level + more) for name, more in way if name not in stuck}
    bands = {name: range(ticks[0], ticks[1] + 1) for name, ticks in bands.items() if ticks}
    cases = [dict(zip(bands, ticks)) for ticks in itertools.product(*bands.values())]
    return {tuple(name for name in case if case[name] == min(case.values())) for case in cases}


def dark_by_words(world, names):
    """The zones that must be dark by the words of the document."""
    found = []
    for name, low, high, limit, ways in world[1]:
        if all(set(names) & {switch for switch, _ in way} for way in ways):
            found.append(name)
    return found
