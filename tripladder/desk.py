"""A desk: a text tells a world and requests, and each request is answered.

Each function of a request is given the desk and a list of the values behind its word. It returns
the answer; if it raises an error, it has changed nothing.
"""

from tripladder.data import check_switches, is_dial, is_name, names_of, zone_at
from tripladder.dials import least_setting
from tripladder.errors import BadLine, BadText, NoDial, NoLevel, NoSwitch, NoWay, NoZone
from tripladder.first import is_good, may_open, must_open, spoilt
from tripladder.stuck import dark, stuck_world
from tripladder.texts import joined, number_in, setting_text, world_of


class Desk:
    """A world, its dials, the switches that stick, and those that are open."""

    def __init__(self, world):
        self.world = world
        self.setting = tuple([0 for switch in world[0]])
        self.stuck = []
        self.opened = []


def told(names):
    """The names, ascending, as an answer."""
    return joined(sorted(names), " ")


def set_dial(desk, given):
    """Give a switch another dial."""
    name, number = given
    check_switches(desk.world, [name])
    at = names_of(desk.world[0]).index(name)
    if not is_dial(number, desk.world[0][at][1]):
        raise NoDial(number)
    desk.setting = (*desk.setting[:at], number, *desk.setting[at + 1:])
    return "done"


def tell_dials(desk, given):
    """The text of the setting."""
    return setting_text(desk.setting)


def set_least(desk, given):
    """Take the least setting that is good, if there is one."""
    setting = least_setting(desk.world)
    if setting is None:
        return "none"
    desk.setting = setting
    return "done"


def without(names, name):
    """All of the names but this one."""
    return [other for other in names if other != name]


def stick(desk, given):
    """Let a switch stick."""
    check_switches(desk.world, given)
    desk.stuck = without(desk.stuck, given[0]) + given
    return "done"


def free(desk, given):
    """Let a switch stick no more."""
    check_switches(desk.world, given)
    desk.stuck = without(desk.stuck, given[0])
    return "done"


def tell_first(desk, given):
    """The switches that may be among the first ones of a way."""
    zone, level, way = given
    return told(may_open(stuck_world(desk.world, desk.stuck), desk.setting, zone, level, way))


def make_fault(desk, given):
    """The switches that may open by a fault; those that must are open from now on."""
    zone, level = given
    world = stuck_world(desk.world, desk.stuck)
    may = []
    must = []
    for way, links in enumerate(zone_at(world, zone, level)[4]):
        # A way with one that is open already is not fed, so nobody on it sees the fault.
        if not any([name in desk.opened for name, more in links]):
            may.extend(may_open(world, desk.setting, zone, level, way))
            must.extend(must_open(world, desk.setting, zone, level, way))
    desk.opened = desk.opened + must
    return told(may)


def tell_opened(desk, given):
    """The switches that are open."""
    return told(desk.opened)


def close(desk, given):
    """Close a switch."""
    check_switches(desk.world, given)
    desk.opened = without(desk.opened, given[0])
    return "done"


def tell_dark(desk, given):
    """The zones that are dark by the switches that are open."""
    return told(dark(desk.world, desk.opened))


def tell_good(desk, given):
    """Whether the dials are good."""
    return "yes" if is_good(desk.world, desk.setting) else "no"


def tell_spoilt(desk, given):
    """How much the dials spoil."""
    return str(len(spoilt(desk.world, desk.setting)))


FORMS = {
    "dial": ("name", "number"), "dials": (), "least": (), "stick": ("name",), "free": ("name",),
    "first": ("name", "number", "number"), "fault": ("name", "number"), "open": (), "close": ("name",),
    "dark": (), "good": (), "spoilt": ()}
ACTIONS = {
    "dial": set_dial, "dials": tell_dials, "least": set_least, "stick": stick, "free": free,
    "first": tell_first, "fault": make_fault, "open": tell_opened, "close": close,
    "dark": tell_dark, "good": tell_good, "spoilt": tell_spoilt}


def name_in(word):
    """The name that the word is; raises BadText if it is none."""
    if not is_name(word):
        raise BadText()
    return word


def value_in(kind, word):
    """The name or the number that the word is."""
    return name_in(word) if kind == "name" else number_in(word)


def request_in(line):
    """The pair (word, values behind it) of a request; raises BadText if it is not so written."""
    words = line.split(" ")
    head = words[0]
    if head not in FORMS or len(words) != len(FORMS[head]) + 1:
        raise BadText()
    return head, [value_in(kind, word) for kind, word in zip(FORMS[head], words[1:])]


def requests_in(lines, start):
    """The requests of these lines, the first of which has the number `start`."""
    found = []
    for at, line in enumerate(lines):
        try:
            found.append(request_in(line))
        except BadText:
            raise BadLine(start + at) from None
    return found


def answer(desk, word, given):
    """The answer to a request."""
    action = ACTIONS[word]
    try:
        return action(desk, given)
    except NoZone:
        return "refused NoZone"
    except NoLevel:
        return "refused NoLevel"
    except NoWay:
        return "refused NoWay"
    except NoSwitch:
        return "refused NoSwitch"
    except NoDial:
        return "refused NoDial"


def answers(text):
    """The answers to the requests behind the world and the empty line of the text."""
    lines = text.split("\n")
    end = lines.index("") if "" in lines else len(lines)
    desk = Desk(world_of(lines[:end]))
    if end == len(lines):
        raise BadLine(end)
    requests = requests_in(lines[end + 1:], end + 1)
    return [answer(desk, word, given) for word, given in requests]
