"""Texts of worlds, settings and rows of faults, and the worlds and settings that texts tell."""

from tripladder.data import is_ascending, is_setting, is_switch, is_zone, names_of
from tripladder.errors import BadLine, BadText


def joined(words, sign):
    """The words with this sign between; - for none."""
    return sign.join(words) if words else "-"


def step_text(step):
    """The text of a triple of a curve."""
    level, early, late = step
    return f"{level}:{early}-{late}"


def curve_text(curve):
    """The text of a CURVE."""
    return joined([step_text(step) for step in curve], ";")


def switch_text(switch):
    """The line of a SWITCH."""
    name, dials = switch
    return " ".join([name] + [curve_text(curve) for curve in dials])


def way_text(way):
    """The text of a WAY."""
    return ">".join([f"{name}{more:+d}" for name, more in way])


def zone_text(zone):
    """The line of a ZONE."""
    name, low, high, limit, ways = zone
    return " ".join([f"@{name} {low} {high} {limit}"] + [way_text(way) for way in ways])


def world_text(world):
    """The text of a WORLD: a line for each switch, then one for each zone."""
    switches, zones = world
    return "\n".join([switch_text(switch) for switch in switches] + [zone_text(zone) for zone in zones])


def number_in(word):
    """The number with these digits; raises BadText if it is not so written."""
    if len(word) > 3 or not word.isascii() or not word.isdigit() or word != str(int(word)):
        raise BadText()
    return int(word)


def step_in(word):
    """The triple of a curve with this text."""
    level, _, ticks = word.partition(":")
    early, _, late = ticks.partition("-")
    return number_in(level), number_in(early), number_in(late)


def curve_in(word):
    """The triples of the CURVE with this text."""
    return () if word == "-" else tuple([step_in(part) for part in word.split(";")])


def switch_in(line):
    """The name and the curves of the SWITCH with this line."""
    words = line.split(" ")
    return words[0], tuple([curve_in(word) for word in words[1:]])


def link_in(word):
    """The pair (switch, more) with this text."""
    if "+" in word:
        name, _, more = word.partition("+")
        return name, number_in(more)
    name, _, less = word.partition("-")
    if less == "0":
        raise BadText()
    return name, -number_in(less)


def way_in(word):
    """The pairs of the WAY with this text."""
    return tuple([link_in(part) for part in word.split(">")])


def zone_in(line):
    """The parts of the ZONE with this line."""
    words = line.split(" ")
    if len(words) < 5:
        raise BadText()
    low, high, limit = [number_in(word) for word in words[1:4]]
    return words[0][1:], low, high, limit, tuple([way_in(word) for word in words[4:]])


def add_line(switches, zones, line):
    """Add the SWITCH or ZONE of a line; raise BadText if it cannot stand behind those ahead of it."""
    if line.startswith("@"):
        row = zone_in(line)
        rows = zones
        fits = is_zone(row, names_of(switches))
    else:
        row = switch_in(line)
        rows = switches
        fits = is_switch(row) and not zones
    if not fits or not is_ascending(names_of(rows + [row])):
        raise BadText()
    rows.append(row)


def world_of(lines):
    """The WORLD with these lines; raises BadLine for the first one that is wrong."""
    switches = []
    zones = []
    for at, line in enumerate(lines):
        try:
            add_line(switches, zones, line)
        except BadText:
            raise BadLine(at) from None
    return tuple(switches), tuple(zones)


def world_in(text):
    """The WORLD with this text; raises BadLine for the first line that is wrong."""
    return world_of(text.split("\n") if text else [])


def setting_text(setting):
    """The text of a SETTING."""
    return joined([str(dial) for dial in setting], ",")


def setting_in(world, text):
    """The SETTING of the world with this text; raises BadText if there is none."""
    setting = () if text == "-" else tuple([number_in(word) for word in text.split(",")])
    if not is_setting(world, setting):
        raise BadText()
    return setting


def row_text(row):
    """The text of a row of faults."""
    return joined([f"{zone}/{level}/{pause}" for zone, level, pause in row], " ")
