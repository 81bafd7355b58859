"""[2], [13]: what holds for each function, however it is called."""

import copy
import importlib
import inspect
import unittest

from sample import HOUSE, PAIR, TICK, YARD, listed, tupled
from tripladder.texts import world_text

CURVE = ((2, 4, 5), (4, 1, 3))
WAY = {"world": YARD, "setting": (0, 0, 1), "zone": "barn", "level": 4, "way": 0}
WORLDS = [{"world": HOUSE}, {"world": PAIR}, {"world": YARD}, {"world": (HOUSE[0], ())}]
SETTINGS = [{"world": HOUSE, "setting": (0, 1, 1)}, {"world": HOUSE, "setting": (0, 2, 1)},
            {"world": PAIR, "setting": (0, 1)}]
STEPS = (("x", 1, 0, "q", 1), ("y", 1, 0, "p", 2), ("x", 1, 0, "q", 3))
TREE = {"switches": tuple((name, TICK) for name in "abc"),
        "wires": (("a", "c", 2, 1, 2, 9), ("b", "c", 3, 1, 2, 9), ("c", "", 1, 1, 2, 9))}
RING = {"names": ("y", "x"), "dials": (((1, 2, 3), (4, 1, 1)), ()), "low": 1, "high": 3, "limit": 9}
HOT = {"world": HOUSE, "setting": (0, 1, 2), "heaters": (("a", 9, ((1, 1), (2, 2)), 2), ("c", 5, ((1, 1),), 1))}
HOTTER = {**HOT, "heaters": (("b", 3, ((2, 1),), 1),)}
ROWS = [{**HOT, "row": (("attic", 1, 1), ("hall", 2, 0), ("attic", 3, 2))}, {**HOTTER, "row": (("attic", 1, 3),)},
        {**HOTTER, "row": ()}]
PAUSES = [{**HOT, "pause": 0}, {**HOT, "pause": 4}, {**HOTTER, "pause": 1}]
STUCK = [{**WAY, "stuck": ("far",)}, {**WAY, "stuck": ()}, {**WAY, "setting": (0, 1, 1), "stuck": ("near", "slow")}]
STUCK = [{key: value for key, value in more.items() if key != "way"} for more in STUCK]
WIRES = [{"world": HOUSE, "setting": (0, 0, 0), "wires": (("a", "b", 3), ("b", "c", 3))},
         {"world": HOUSE, "setting": (0, 1, 1), "wires": (("a", "b", 1), ("b", "c", 1))},
         {"world": YARD, "setting": (0, 0, 1), "wires": ()}]
DESK = world_text(PAIR) + "\n\ngood\nfault x 1\nopen\nfault z 1\nclose p\nstick p\nfault y 1\ndials"

# For each function of the interface its file and the arguments of some calls, in order.
CALLS = [
    ("data", "is_world", [{"thing": HOUSE}, {"thing": YARD}, {"thing": listed(HOUSE)}, {"thing": ((), [])}]),
    ("data", "is_setting", [{"world": HOUSE, "thing": (0, 1, 2)}, {"world": HOUSE, "thing": [0, 1, 2]}]),
    ("data", "band", [{"curve": CURVE, "level": 3}, {"curve": CURVE, "level": 1}, {"curve": (), "level": 1}]),
    ("data", "sees", [{"world": HOUSE, "zone": "attic", "level": 3}, {"world": YARD, "zone": "barn", "level": 2}]),
    ("data", "opens", [{"world": HOUSE, "setting": (0, 1, 2), "name": "b", "level": 2}]),
    ("first", "may_open", [WAY]), ("first", "must_open", [WAY]), ("first", "may_alone", [WAY]),
    ("first", "must_alone", [WAY]), ("first", "first_sets", [WAY, {**WAY, "setting": (0, 2, 1)}]),
    ("first", "cut_by", [WAY, {**WAY, "setting": (0, 2, 1)}]),
    ("first", "spoilt", [{"world": HOUSE, "setting": (0, 1, 1)}, {"world": YARD, "setting": (1, 1, 1)}]),
    ("first", "is_good", [{"world": HOUSE, "setting": (0, 1, 1)}, {"world": HOUSE, "setting": (0, 1, 2)}]),
    ("dials", "least_setting", WORLDS), ("dials", "greatest_setting", WORLDS), ("dials", "how_many", WORLDS),
    ("dials", "raised", SETTINGS), ("dials", "held", [{**SETTINGS[0], "names": ("a", "b")}, {**SETTINGS[2], "names": ()}]),
    ("dials", "fewest_changes", SETTINGS), ("dials", "changed", SETTINGS), ("dials", "chain", WORLDS),
    ("dials", "is_chain", [{"world": PAIR, "thing": STEPS}, {"world": PAIR, "thing": listed(STEPS)}]),
    ("dials", "waits", WORLDS), ("dials", "first_ones", WORLDS),
    ("shapes", "tree_world", [TREE, {"switches": (), "wires": ()}]), ("shapes", "ring_world", [RING]),
    ("heat", "heats", ROWS), ("heat", "melt", ROWS), ("heat", "gains", [HOT, HOTTER]),
    ("heat", "never", PAUSES), ("heat", "shortest", PAUSES), ("heat", "least_pause", [HOT, HOTTER]),
    ("heat", "forever", ROWS),
    ("stuck", "after", STUCK), ("stuck", "may_dark", STUCK), ("stuck", "must_dark", STUCK),
    ("stuck", "dark", [{"world": HOUSE, "names": ("a", "b")}, {"world": YARD, "names": ("far",)}]),
    ("stuck", "worst_stuck", [{key: WAY[key] for key in ("world", "setting", "zone", "level")}]),
    ("wires", "spoilt_by", WIRES), ("wires", "needed", WIRES),
    ("wires", "fewest_wires", [{"world": HOUSE, "setting": (0, 0, 0), "ticks": ticks} for ticks in (1, 3)]),
    ("texts", "world_text", WORLDS), ("texts", "world_in", [{"text": world_text(YARD)}, {"text": ""}]),
    ("texts", "setting_text", [{"setting": (0, 12)}, {"setting": ()}]),
    ("texts", "setting_in", [{"world": HOUSE, "text": "0,1,2"}, {"world": ((), ()), "text": "-"}]),
    ("texts", "row_text", [{"row": (("attic", 1, 0), ("hall", 12, 9))}, {"row": ()}]),
    ("desk", "answers", [{"text": DESK}, {"text": ""}]),
]
LISTS = ("sees", "may_open", "must_open", "may_alone", "must_alone", "first_sets", "spoilt", "waits", "heats", "gains",
         "after", "dark", "may_dark", "must_dark", "spoilt_by", "needed", "answers")


def found(file, name):
    return getattr(importlib.import_module("tripladder." + file), name)


def each_call():
    for file, name, calls in CALLS:
        for more in calls:
            yield name, found(file, name), more


def spoil(value):
    """Change every list of a value."""
    if isinstance(value, (list, tuple)):
        for part in value:
            spoil(part)
    if isinstance(value, list):
        value.append("more")


class EachFunction(unittest.TestCase):
    def test_stands_in_its_file_with_the_written_parameters(self):
        for file, name, calls in CALLS:
            self.assertEqual(found(file, name).__module__, "tripladder." + file)
            self.assertEqual(list(inspect.signature(found(file, name)).parameters), list(calls[0]))

    def test_by_position_and_by_names(self):
        for name, call, more in each_call():
            self.assertEqual(call(*more.values()), call(**more), name)

    def test_a_second_call_gives_an_equal_result(self):
        for name, call, more in each_call():
            self.assertEqual(call(**more), call(**more), name)

    def test_lists_for_tuples_and_tuples_for_lists(self):
        for name, call, more in each_call():
            kept = {key: value if key == "thing" else listed(value) for key, value in more.items()}
            self.assertEqual(call(**kept), call(**more), name)
            kept = {key: value if key == "thing" else tupled(value) for key, value in kept.items()}
            self.assertEqual(call(**kept), call(**more), name)

    def test_lists_for_some_of_the_tuples(self):
        for name, call, more in each_call():
            for key in [key for key in more if key != "thing"]:
                value = more[key]
                half = [*value] if isinstance(value, tuple) else value
                self.assertEqual(call(**{**more, key: half}), call(**more), (name, key))

    def test_the_kinds_of_values_are_kept(self):
        for name, call, more in each_call():
            result = call(**more)
            self.assertEqual(isinstance(result, list), name in LISTS, name)
            lists = {key: value if key == "thing" else listed(value) for key, value in more.items()}
            self.assertEqual(repr(call(**lists)), repr(result), name)

    def test_arguments_are_unchanged(self):
        for name, call, more in each_call():
            lists = {key: listed(value) for key, value in more.items()}
            before = copy.deepcopy(lists)
            call(**lists)
            self.assertEqual(lists, before, name)
            self.assertEqual(repr(lists), repr(before), name)

    def test_returned_lists_belong_to_the_caller(self):
        for name, call, more in each_call():
            for given in (more, {key: listed(value) for key, value in more.items() if key != "thing"}):
                if list(given) == list(more):
                    before, kept = copy.deepcopy(call(**given)), copy.deepcopy(given)
                    spoil(call(**given))
                    self.assertEqual(given, kept, name)
                    self.assertEqual(call(**given), before, name)

    def test_returned_values_may_be_passed_in_again(self):
        curve = [found("data", "opens")(HOUSE, (0, 1, 2), "b", 2)]
        self.assertEqual(found("data", "band")([(1, *curve[0])], 1), (3, 4))
        for zone, level, way, switch in found("first", "spoilt")(HOUSE, (0, 0, 0)):
            may = found("first", "may_open")(HOUSE, (0, 0, 0), zone, level, way)
            self.assertIn(switch, may)

    def test_settings_chains_and_worlds_may_be_passed_in_again(self):
        for make, more in (("tree_world", TREE), ("ring_world", RING)):
            for given in (more, {key: listed(value) for key, value in more.items()}):
                world = found("shapes", make)(**given)
                self.assertIs(found("data", "is_world")(world), True)
                setting = found("dials", "least_setting")(world)
                self.assertIs(setting is None or found("data", "is_setting")(world, setting), True)
        for world in (PAIR, listed(PAIR)):
            self.assertIs(found("dials", "is_chain")(world, found("dials", "chain")(world)), True)
            self.assertEqual(found("dials", "held")(HOUSE, (0, 1, 2), found("dials", "first_ones")(HOUSE)), (0, 1, 2))

    def test_wires_open_ones_and_texts_may_be_passed_in_again(self):
        for ticks in (1, 3, 9):
            wires = found("wires", "fewest_wires")(HOUSE, (0, 0, 0), ticks)
            self.assertEqual(found("wires", "spoilt_by")(HOUSE, (0, 0, 0), wires or ()) == [], wires is not None)
            kept = found("wires", "needed")(HOUSE, (0, 0, 0), wires or ())
            self.assertEqual(found("wires", "needed")(HOUSE, (0, 0, 0), kept), list(wires or ()))
        for names in found("stuck", "after")(HOUSE, (0, 0, 0), "attic", 1, ()):
            self.assertIn("attic", found("stuck", "dark")(HOUSE, names))
        world = found("texts", "world_in")(found("texts", "world_text")(listed(HOUSE)))
        setting = found("texts", "setting_in")(world, found("texts", "setting_text")([0, 1, 2]))
        self.assertIs(found("first", "is_good")(world, setting), True)


if __name__ == "__main__":
    unittest.main()
