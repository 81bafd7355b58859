"""Worlds of common shapes: trees that are fed at the top, and rings that are fed from both ends."""


def copied(dials):
    """The dials as tuples, also if they came as lists."""
    return tuple([tuple([tuple(step) for step in curve]) for curve in dials])


def upward(feeds, name):
    """The names of the wires from this one up to the supply."""
    found = []
    while name != "":
        found.append(name)
        name = feeds[name]
    return found


def loads_below(feeds, loads):
    """For each wire the sum of the loads of all wires at or below it."""
    sums = {name: 0 for name in loads}
    for name, load in loads.items():
        for upper in upward(feeds, name):
            sums[upper] += load
    return sums


def tree_way(feeds, sums, name):
    """The way of a wire of a tree: the loads that it does not feed itself come on top above it."""
    return tuple([(upper, sums[upper] - sums[name]) for upper in upward(feeds, name)])


def tree_world(switches, wires):
    """The WORLD of a tree; each wire is (name, above, load, low, high, limit)."""
    feeds = {wire[0]: wire[1] for wire in wires}
    sums = loads_below(feeds, {wire[0]: wire[2] for wire in wires})
    zones = []
    for name, above, load, low, high, limit in wires:
        zones.append((name, low, high, limit, (tree_way(feeds, sums, name),)))
    return tuple([(name, copied(dials)) for name, dials in switches]), tuple(zones)


def ring_way(names, side):
    """The way by the switches of these wires that stand on this side."""
    return tuple([(name + side, 0) for name in names])


def ring_world(names, dials, low, high, limit):
    """The WORLD of a ring of wires in a row, fed where it begins and where it ends."""
    switches = []
    zones = []
    for at, name in enumerate(names):
        switches.extend([(name + "a", copied(dials)), (name + "b", copied(dials))])
        ways = (ring_way(names[at::-1], "a"), ring_way(names[at:], "b"))
        zones.append((name, low, high, limit, ways))
    return tuple(sorted(switches)), tuple(sorted(zones))
