"""What a world asks of the dials: how far each may go, and how far others must go then.

In this file DIALS are a dict with the number of a dial for each switch, in the order of the world.
RULES are a pair (tops, needs): tops has for each switch how many of its dials, from 0 on, are fit
wherever it is the nearest; needs are rows (nearest, other, table), where the table has for each
dial of the nearest the least dial of the other one that does not spoil.
"""

from tripladder.data import band, sees
from tripladder.first import is_rash, is_unfit


def looks(world):
    """For each way at each fault a row (place, limit, sights).

    The place is (zone, level, way); the sights are a pair (switch, bands by its dials) for each
    switch of the way, the nearest ahead.
    """
    dials = {name: curves for name, curves in world[0]}
    found = []
    for zone, low, high, limit, ways in world[1]:
        for level in range(low, high + 1):
            for way, seen in enumerate(sees(world, zone, level)):
                sights = [(name, [band(curve, sight) for curve in dials[name]]) for name, sight in seen]
                found.append(((zone, level, way), limit, sights))
    return found


def tops_of(world, rows):
    """For each switch how many of its dials are fit wherever it is the nearest."""
    tops = {name: len(curves) for name, curves in world[0]}
    for place, limit, sights in rows:
        nearest, bands = sights[0]
        # A later dial is never quicker, so those that are fit stand ahead of all others.
        fit = len([ticks for ticks in bands if not is_unfit(ticks, limit)])
        tops[nearest] = min(tops[nearest], fit)
    return tops


def least_dial(bands, own):
    """The least dial with which a switch does not spoil, where the nearest has this band."""
    return len([ticks for ticks in bands if is_rash(ticks, own)])


def needs_of(rows):
    """The rows (nearest, other, table) of all pairs that stand on one way."""
    tables = {}
    for place, limit, sights in rows:
        nearest, owns = sights[0]
        for other, bands in sights[1:]:
            table = [least_dial(bands, own) for own in owns]
            ahead = tables.get((nearest, other), table)
            tables[(nearest, other)] = [max(pair) for pair in zip(ahead, table)]
    return [(nearest, other, table) for (nearest, other), table in tables.items()]


def rules_of(world):
    """The RULES of a world: a setting is good if it breaks none of them."""
    rows = looks(world)
    return tops_of(world, rows), needs_of(rows)


def is_fit(tops, dials):
    """Whether no dial goes beyond those that are fit."""
    return all([dials[name] < top for name, top in tops.items()])


def broken(needs, dials):
    """The first need that is broken: (nearest, its dial, other, least dial of this one); or None."""
    for nearest, other, table in needs:
        dial = dials[nearest]
        if table[dial] > dials[other]:
            return nearest, dial, other, table[dial]
    return None


def climb(rules, start):
    """Raise dials as far as the rules ask, until all is good or one has gone too far.

    Returns the pair (dials, raises): the dials at the end, and the needs that raised them, in order.
    """
    tops, needs = rules
    dials = dict(start)
    raises = []
    while is_fit(tops, dials):
        need = broken(needs, dials)
        if need is None:
            break
        raises.append(need)
        dials[need[2]] = need[3]
    return dials, raises


def settled(rules, start):
    """The least good setting in which no dial is less than at the start; None if there is none."""
    dials, _ = climb(rules, start)
    return tuple(dials.values()) if is_fit(rules[0], dials) else None


def settled_without(rules, given, free):
    """The least good setting in which all but the free ones have their given dials; None if there is none."""
    tops, needs = rules
    start = {name: 0 if name in free else given[name] for name in tops}
    # One that is raised beyond its given dial has gone too far.
    ends = {name: top if name in free else min(top, given[name] + 1) for name, top in tops.items()}
    return settled((ends, needs), start)


def sunk(rules):
    """The greatest good setting; None if there is none."""
    tops, needs = rules
    dials = {name: top - 1 for name, top in tops.items()}
    while all([dial >= 0 for dial in dials.values()]):
        need = broken(needs, dials)
        if need is None:
            return tuple(dials.values())
        dials[need[0]] -= 1
    return None


def keeps(needs, dials):
    """Whether no need is broken between switches that have a dial already."""
    known = [row for row in needs if row[0] in dials and row[1] in dials]
    return all([table[dials[nearest]] <= dials[other] for nearest, other, table in known])


def good_ones(rules):
    """All DIALS that are good."""
    tops, needs = rules
    found = [{}]
    for name, top in tops.items():
        own = [row for row in needs if name in row[:2]]
        more = [{**dials, name: dial} for dials in found for dial in range(top)]
        found = [dials for dials in more if keeps(own, dials)]
    return found
