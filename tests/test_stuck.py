"""[9]: what is open, and what is dark, behind a fault if some switches stick."""

import itertools
import random
import unittest

from sample import HOUSE, YARD, curves_of, dark_by_words, first_cases, large_world, listed, one_way
from sample import random_world, some_of, wide_world
from tripladder.data import is_world
from tripladder.errors import NoLevel, NoSwitch, NoZone
from tripladder.first import cut_by, first_sets
from tripladder.stuck import after, dark, may_dark, must_dark, worst_stuck

GOOD = (0, 1, 2)
WITH_STUCK = (after, may_dark, must_dark)
POINT = (((1, 2, 2),),)
BROAD = (((1, 2, 3),),)


def flat(*ways, dials=None):
    """The world of one zone "z" with these ways of switches, and of the zones a, b, .. for each switch alone."""
    names = sorted("".join(ways))
    dials = dials or {}
    zones = [(name, 1, 1, 9, (((name, 0),),)) for name in names]
    zones.append(("z", 1, 1, 9, tuple(tuple((name, 0) for name in way) for way in ways)))
    return (tuple((name, dials.get(name, BROAD)) for name in names), tuple(zones)), (0,) * len(names)


def open_by_cases(world, setting, zone, level, stuck):
    """The list that after must tell, by going through all cases of all ways at once."""
    curves, row = curves_of(world, setting), {row[0]: row for row in world[1]}[zone]
    ways = [first_cases(curves, way, level, stuck) for way in row[4]]
    return sorted({tuple(sorted(itertools.chain(*case))) for case in itertools.product(*ways)})


def all_faults(world):
    """All pairs (zone, level)."""
    return [(row[0], level) for row in world[1] for level in range(row[1], row[2] + 1)]


def worst_by_cases(world, setting, zone, level):
    """The pair that worst_stuck must tell."""
    best = None
    for name in sorted(name for way in {row[0]: row[4] for row in world[1]}[zone] for name, _ in way):
        cases = open_by_cases(world, setting, zone, level, (name,))
        zones = {dim for case in cases for dim in dark_by_words(world, case)}
        if best is None or len(zones) > best[0]:
            best = len(zones), name
    return best


class After(unittest.TestCase):
    def test_one_way_opens_as_its_first_sets(self):
        for bands in (((1, 3), (2, 4)), ((1, 2), (2, 3)), ((2, 2), (2, 2)), (None, (1, 2)), (None, None)):
            world, setting = one_way(*bands)
            self.assertEqual(after(world, setting, "z", 1, ()), first_sets(world, setting, "z", 1, 0))

    def test_nobody_opens(self):
        world, setting = one_way(None, None)
        self.assertEqual(after(world, setting, "z", 1, ()), [()])

    def test_all_switches_of_a_way_are_stuck(self):
        world, setting = one_way((1, 3), (2, 4))
        self.assertEqual(after(world, setting, "z", 1, ("a", "b")), [()])
        world, setting = flat("ab", "c")
        self.assertEqual(after(world, setting, "z", 1, ("a", "b")), [("c",)])
        self.assertEqual(after(world, setting, "z", 1, ("c",)), [("a",), ("a", "b"), ("b",)])
        self.assertEqual(after(world, setting, "z", 1, ("a", "b", "c")), [()])

    def test_the_next_one_opens_for_one_that_sticks(self):
        told = [after(HOUSE, GOOD, "attic", 1, stuck) for stuck in ((), ("a",), ("a", "b"), ("b",), ("a", "b", "c"))]
        self.assertEqual(told, [[("a",)], [("b",)], [("c",)], [("a",)], [()]])

    def test_one_that_sticks_elsewhere_changes_nothing(self):
        self.assertEqual(after(HOUSE, GOOD, "hall", 2, ("a",)), [("b",)])

    def test_one_that_sticks_leaves_what_the_others_see(self):
        self.assertEqual(after(YARD, (0, 0, 0), "barn", 2, ()), [("near",)])
        self.assertEqual(after(YARD, (0, 0, 0), "barn", 3, ("near",)), [("slow",)])
        self.assertEqual(after(YARD, (0, 0, 0), "barn", 2, ("near",)), [()])

    def test_ways_open_independently(self):
        world, setting = flat("ab", "cd", dials={"d": POINT})
        self.assertEqual(after(world, setting, "z", 1, ()), [
            ("a", "b", "c", "d"), ("a", "b", "d"), ("a", "c", "d"), ("a", "d"), ("b", "c", "d"), ("b", "d")])
        world, setting = flat("c", "b", "a")
        self.assertEqual(after(world, setting, "z", 1, ()), [("a", "b", "c")])

    def test_switches_ascend_over_the_ways(self):
        world, setting = flat("dc", "ba", dials={"a": POINT, "b": POINT, "c": POINT, "d": POINT})
        self.assertEqual(after(world, setting, "z", 1, ()), [("a", "b", "c", "d")])

    def test_random_worlds_as_by_all_cases(self):
        sizes = set()
        for seed, make in itertools.product(range(200), (random_world, wide_world)):
            world, setting = make(seed)
            self.assertTrue(is_world(world))
            source = random.Random(seed)
            for zone, level in all_faults(world):
                for stuck in ((), some_of(source, [name for name, _ in world[0]])):
                    told = after(world, setting, zone, level, stuck)
                    self.assertEqual(told, open_by_cases(world, setting, zone, level, stuck), (seed, zone, level, stuck))
                    sizes.add(min(len(told), 6))
        self.assertEqual(sizes, {1, 2, 3, 4, 5, 6})


class Dark(unittest.TestCase):
    def test_each_way_must_have_one(self):
        world, _ = flat("ab", "cd", "e")
        self.assertEqual(dark(world, ()), [])
        self.assertEqual(dark(world, ("a", "c")), ["a", "c"])
        self.assertEqual(dark(world, ("a", "c", "e")), ["a", "c", "e", "z"])
        self.assertEqual(dark(world, ("b", "d", "e")), ["b", "d", "e", "z"])
        self.assertEqual(dark(world, ("a", "b", "c", "d")), ["a", "b", "c", "d"])

    def test_the_zones_of_the_house(self):
        told = [dark(HOUSE, names) for names in (("a",), ("b",), ("c",), ("a", "b", "c"), ())]
        self.assertEqual(told, [["attic"], ["attic", "hall"], ["attic", "hall"], ["attic", "hall"], []])

    def test_without_zones(self):
        self.assertEqual(dark((HOUSE[0], ()), ("a", "b")), [])
        self.assertEqual(dark(((), ()), ()), [])

    def test_random_worlds_as_by_the_words(self):
        seen = set()
        for seed in range(200):
            world, _ = wide_world(seed)
            names = some_of(random.Random(seed), [name for name, _ in world[0]])
            self.assertEqual(dark(world, names), dark_by_words(world, names), (seed, names))
            seen.add(len(dark(world, names)))
        self.assertEqual(seen, {0, 1, 2, 3})


class MayAndMust(unittest.TestCase):
    def test_the_house(self):
        told = [(may_dark(HOUSE, GOOD, "attic", 1, stuck), must_dark(HOUSE, GOOD, "attic", 1, stuck))
                for stuck in ((), ("a",), ("a", "b", "c"))]
        self.assertEqual(told, [(["attic"], ["attic"]), (["attic", "hall"], ["attic", "hall"]), ([], [])])

    def test_in_some_case_and_in_all_cases(self):
        told = [ask(HOUSE, (0, 0, 0), "attic", 1, ()) for ask in (may_dark, must_dark)]
        self.assertEqual(told, [["attic", "hall"], ["attic"]])
        self.assertEqual(must_dark(HOUSE, (0, 0, 0), "hall", 1, ("a",)), ["attic", "hall"])

    def test_dark_in_all_cases_by_another_one_in_each(self):
        switches = (("a", BROAD), ("b", BROAD))
        world = switches, (("x", 1, 1, 9, ((("b", 0), ("a", 0)),)), ("y", 1, 1, 9, ((("a", 0),), (("b", 0),))))
        self.assertEqual(may_dark(world, (0, 0), "x", 1, ()), ["x", "y"])
        self.assertEqual(must_dark(world, (0, 0), "x", 1, ()), ["x"])
        self.assertEqual(must_dark(world, (0, 0), "y", 1, ()), ["x", "y"])

    def test_a_zone_that_needs_two_cases_at_once_is_not_dark(self):
        # On x either a or b opens alone; y is dark only by both of them.
        switches = (("a", (((1, 2, 3), (2, 2, 2)),)), ("b", (((1, 3, 3),),)))
        world = switches, (("x", 2, 2, 9, ((("a", 0), ("b", 0)),)), ("y", 1, 1, 9, ((("a", 0),), (("b", 0),))))
        self.assertEqual(may_dark(world, (0, 0), "x", 2, ()), ["x"])
        self.assertEqual(may_dark(world, (0, 0), "x", 2, ("a",)), ["x"])

    def test_the_zone_itself_may_stay_fed(self):
        world, setting = flat("ab", "c")
        self.assertEqual(may_dark(world, setting, "z", 1, ("c",)), ["a", "b"])
        self.assertEqual(must_dark(world, setting, "z", 1, ("c",)), [])
        self.assertEqual(must_dark(world, setting, "z", 1, ("b", "c")), ["a"])

    def test_random_worlds_as_by_all_cases(self):
        differ = 0
        for seed, make in itertools.product(range(200), (random_world, wide_world)):
            world, setting = make(seed)
            source = random.Random(seed)
            names = [row[0] for row in world[1]]
            for zone, level in all_faults(world):
                for stuck in ((), some_of(source, [name for name, _ in world[0]])):
                    cases = [dark_by_words(world, case) for case in open_by_cases(world, setting, zone, level, stuck)]
                    may = [name for name in names if any(name in case for case in cases)]
                    must = [name for name in names if all(name in case for case in cases)]
                    self.assertEqual(may_dark(world, setting, zone, level, stuck), may, (seed, zone, level, stuck))
                    self.assertEqual(must_dark(world, setting, zone, level, stuck), must, (seed, zone, level, stuck))
                    differ += may != must
        self.assertGreater(differ, 100)


class WorstStuck(unittest.TestCase):
    def test_the_house(self):
        self.assertEqual(worst_stuck(HOUSE, GOOD, "attic", 1), (2, "a"))
        self.assertEqual(worst_stuck(HOUSE, GOOD, "hall", 3), (2, "b"))

    def test_the_least_of_several(self):
        world, setting = flat("ba", dials={"a": POINT, "b": POINT})
        self.assertEqual(worst_stuck(world, setting, "z", 1), (2, "a"))
        self.assertEqual(worst_stuck(world, setting, "b", 1), (0, "b"))

    def test_not_the_first_one(self):
        switches = (("a", (((1, 5, 5),),)), ("b", (((1, 1, 1),),)))
        world = switches, (("x", 1, 1, 9, ((("b", 0), ("a", 0)),)), ("y", 1, 1, 9, ((("a", 0),),)))
        self.assertEqual(worst_stuck(world, (0, 0), "x", 1), (2, "b"))

    def test_only_switches_of_the_zone(self):
        self.assertEqual(worst_stuck(YARD, (0, 0, 0), "well", 1), (0, "far"))

    def test_on_each_of_its_ways(self):
        switches = (("a", (((1, 1, 1),),)), ("b", (((1, 1, 1),),)), ("c", (((1, 2, 2),),)))
        ways = (("a", 0),), (("b", 0), ("c", 0))
        world = switches, (("x", 1, 1, 9, (ways[0],)), ("y", 1, 1, 9, ((("c", 0),),)), ("z", 1, 1, 9, ways))
        self.assertEqual(worst_stuck(world, (0, 0, 0), "z", 1), (3, "b"))

    def test_random_worlds_as_by_all_cases(self):
        seen = set()
        for seed, make in itertools.product(range(150), (random_world, wide_world)):
            world, setting = make(seed)
            for zone, level in all_faults(world):
                best = worst_by_cases(world, setting, zone, level)
                self.assertEqual(worst_stuck(world, setting, zone, level), best, (seed, zone, level))
                seen.add(best[0])
        self.assertEqual(seen, {0, 1, 2, 3})


class Wrong(unittest.TestCase):
    def error(self, ask, *given):
        with self.assertRaises(LookupError) as caught:
            ask(*given)
        return type(caught.exception), vars(caught.exception)

    def test_one_that_sticks_is_no_switch(self):
        for ask in WITH_STUCK:
            for stuck, name in ((("x",), "x"), (("a", "attic"), "attic"), (("", "a"), ""), (["aa", "b", "zz"], "aa")):
                self.assertEqual(self.error(ask, HOUSE, GOOD, "attic", 1, stuck), (NoSwitch, {"name": name}))

    def test_the_zone_and_the_level_come_first(self):
        for ask in WITH_STUCK:
            self.assertEqual(self.error(ask, HOUSE, GOOD, "a", 9, ("x",)), (NoZone, {"zone": "a"}))
            self.assertEqual(self.error(ask, HOUSE, GOOD, "hall", 4, ("x",)), (NoLevel, {"level": 4}))
            self.assertEqual(self.error(ask, HOUSE, GOOD, "hall", 0, ()), (NoLevel, {"level": 0}))
            self.assertEqual(self.error(ask, ((), ()), (), "z", 1, ("x",)), (NoZone, {"zone": "z"}))
        self.assertEqual(self.error(worst_stuck, HOUSE, GOOD, "a", 9), (NoZone, {"zone": "a"}))
        self.assertEqual(self.error(worst_stuck, HOUSE, GOOD, "hall", 4), (NoLevel, {"level": 4}))

    def test_dark_by_one_that_is_no_switch(self):
        for world in (HOUSE, (HOUSE[0], ())):
            self.assertEqual(self.error(dark, world, ("a", "hall", "x")), (NoSwitch, {"name": "hall"}))
        self.assertEqual(self.error(dark, ((), ()), ("a",)), (NoSwitch, {"name": "a"}))


class Large(unittest.TestCase):
    def test_the_largest_world(self):
        world, setting = large_world(), (0, 0, 0, 0, 0, 0)
        for stuck in ((), ("a",), ("b", "c"), tuple("abcdef")):
            told = after(world, setting, "r", 1, stuck)
            self.assertEqual(told, open_by_cases(world, setting, "r", 1, stuck))
        self.assertEqual(len(after(world, setting, "r", 1, ())), 15)
        self.assertEqual(worst_stuck(world, setting, "u", 12), worst_by_cases(world, setting, "u", 12))

    def test_wide_bands_are_no_trouble(self):
        world, setting = one_way((1, 10 ** 12), (2, 10 ** 12))
        self.assertEqual(after(world, setting, "z", 1, ()), [("a",), ("a", "b"), ("b",)])

    def test_lists_for_tuples(self):
        told = after(listed(HOUSE), [0, 1, 2], "attic", 1, ["a"]), worst_stuck(listed(HOUSE), [0, 1, 2], "attic", 1)
        self.assertEqual(repr(told), "([('b',)], (2, 'a'))")

    def test_an_open_way_is_cut(self):
        for seed in range(100):
            world, setting = wide_world(seed)
            for zone, level in all_faults(world):
                ways = {row[0]: row[4] for row in world[1]}[zone]
                fed = [way for way in range(len(ways)) if cut_by(world, setting, zone, level, way) is None]
                self.assertIs(zone in must_dark(world, setting, zone, level, ()), not fed)


if __name__ == "__main__":
    unittest.main()
