"""[5]: who is first at a fault, and what spoils a setting."""

import itertools
import unittest

from sample import HOUSE, YARD, one_way, random_world, tick_at
from tripladder.data import is_setting
from tripladder.errors import NoLevel, NoWay, NoZone
from tripladder.first import (cut_by, first_sets, is_good, may_alone, may_open, must_alone,
                              must_open, spoilt)

WITH_WAY = (may_open, must_open, may_alone, must_alone, first_sets, cut_by)


def asked(*bands):
    """All that is told of one way whose switches a, b, .. have these bands."""
    world, setting = one_way(*bands)
    return tuple(ask(world, setting, "z", 1, 0) for ask in WITH_WAY)


def way_bands(world, setting, row, level, way):
    """The pairs (switch, band) of a way, read off the world itself."""
    places = {switch[0]: at for at, switch in enumerate(world[0])}
    found = []
    for name, more in row[4][way]:
        curve = world[0][places[name]][1][setting[places[name]]]
        found.append((name, tick_at(curve, level + more)))
    return found


def all_cases(pairs):
    """(least tick, first ones) of each case, a tick of its band for each one that opens."""
    names = [name for name, ticks in pairs if ticks]
    spans = [range(ticks[0], ticks[1] + 1) for _, ticks in pairs if ticks]
    found = []
    for case in itertools.product(*spans):
        least = min(case, default=None)
        found.append((least, tuple(sorted(n for n, tick in zip(names, case) if tick == least))))
    return found


def told_by_cases(pairs):
    """What the six functions must tell, by going through all cases."""
    cases = all_cases(pairs)
    sets = sorted({names for _, names in cases})
    names = sorted(name for name, ticks in pairs if ticks)
    may = [name for name in names if any(name in some for some in sets)]
    must = [name for name in names if all(name in some for some in sets)]
    alone = [name for name in names if (name,) in sets]
    only = [name for name in names if sets == [(name,)]]
    return may, must, alone, only, sets, max((least for least, _ in cases if least), default=None)


def spoilt_by_words(world, setting):
    """The rows of spoilt by the words of the document."""
    found = set()
    for row in world[1]:
        for level in range(row[1], row[2] + 1):
            for way in range(len(row[4])):
                (nearest, own), *rest = way_bands(world, setting, row, level, way)
                if own is None or own[1] > row[3]:
                    found.add((row[0], level, way, nearest))
                for name, ticks in rest:
                    if own and ticks and ticks[0] <= own[1]:
                        found.add((row[0], level, way, name))
    return sorted(found)


class WhoIsFirst(unittest.TestCase):
    def test_one_switch_alone(self):
        self.assertEqual(asked((2, 4)), (["a"], ["a"], ["a"], ["a"], [("a",)], 4))

    def test_a_way_that_never_opens(self):
        self.assertEqual(asked(None), ([], [], [], [], [()], None))
        self.assertEqual(asked(None, None, None), ([], [], [], [], [()], None))

    def test_one_that_never_opens_leaves_the_others(self):
        self.assertEqual(asked(None, (2, 4)), (["b"], ["b"], ["b"], ["b"], [("b",)], 4))

    def test_bands_that_are_apart(self):
        self.assertEqual(asked((1, 2), (3, 4)), (["a"], ["a"], ["a"], ["a"], [("a",)], 2))
        self.assertEqual(asked((3, 4), (1, 2)), (["b"], ["b"], ["b"], ["b"], [("b",)], 2))

    def test_bands_that_only_touch(self):
        self.assertEqual(asked((1, 2), (2, 4)), (["a", "b"], ["a"], ["a"], [], [("a",), ("a", "b")], 2))
        self.assertEqual(asked((2, 4), (1, 2)), (["a", "b"], ["b"], ["b"], [], [("a", "b"), ("b",)], 2))

    def test_bands_of_one_same_tick(self):
        self.assertEqual(asked((3, 3), (3, 3)), (["a", "b"], ["a", "b"], [], [], [("a", "b")], 3))

    def test_bands_that_overlap(self):
        sets = [("a",), ("a", "b"), ("b",)]
        self.assertEqual(asked((1, 3), (2, 4)), (["a", "b"], [], ["a", "b"], [], sets, 3))
        self.assertEqual(asked((1, 9), (2, 2)), (["a", "b"], [], ["a", "b"], [], sets, 2))

    def test_one_that_may_open_but_never_alone(self):
        told = asked((2, 2), (2, 9), (3, 9))
        self.assertEqual(told, (["a", "b"], ["a"], ["a"], [], [("a",), ("a", "b")], 2))

    def test_names_ascend_whatever_the_order_on_the_way(self):
        curve = (((1, 1, 2),),)
        world = (("a", curve), ("b", curve), ("c", curve)), (("z", 1, 1, 9, ((("c", 0), ("a", 0), ("b", 0)),)),)
        self.assertEqual(may_open(world, (0, 0, 0), "z", 1, 0), ["a", "b", "c"])
        self.assertEqual(may_alone(world, (0, 0, 0), "z", 1, 0), ["a", "b", "c"])
        self.assertEqual(first_sets(world, (0, 0, 0), "z", 1, 0), [
            ("a",), ("a", "b"), ("a", "b", "c"), ("a", "c"), ("b",), ("b", "c"), ("c",)])
        point = (((1, 1, 1),),)
        world = (("a", point), ("b", point), ("c", point)), world[1]
        self.assertEqual(must_open(world, (0, 0, 0), "z", 1, 0), ["a", "b", "c"])

    def test_each_way_is_looked_at_by_itself(self):
        told = [tuple(ask(YARD, (0, 0, 0), "barn", 5, way) for ask in WITH_WAY) for way in (0, 1)]
        self.assertEqual(told[0], (["near"], ["near"], ["near"], ["near"], [("near",)], 3))
        self.assertEqual(told[1], (["slow"], ["slow"], ["slow"], ["slow"], [("slow",)], 8))
        self.assertEqual(first_sets(YARD, (0, 0, 0), "barn", 2, 1), [()])

    def test_the_level_and_the_more_count(self):
        told = [cut_by(YARD, (0, 0, 0), "barn", level, 0) for level in (2, 3, 4, 5)]
        self.assertEqual(told, [7, 7, 3, 3])
        self.assertEqual([cut_by(YARD, (0, 0, 0), "barn", level, 1) for level in (2, 3)], [None, 8])

    def test_wide_bands_are_no_trouble(self):
        told = asked((1, 10 ** 12), (2, 10 ** 12))
        self.assertEqual(told[4:], ([("a",), ("a", "b"), ("b",)], 10 ** 12))

    def test_all_ways_of_bands_of_up_to_three_switches(self):
        bands = [None, (1, 1), (1, 2), (1, 3), (2, 2), (2, 3), (3, 3), (2, 4)]
        for size in (1, 2, 3):
            for pairs in itertools.product(bands, repeat=size):
                self.assertEqual(asked(*pairs), told_by_cases(list(zip("abc", pairs))), pairs)

    def test_random_worlds_as_by_all_cases(self):
        for seed in range(150):
            world, setting = random_world(seed)
            self.assertTrue(is_setting(world, setting))
            for row in world[1]:
                for level, way in itertools.product(range(row[1], row[2] + 1), range(len(row[4]))):
                    told = tuple(ask(world, setting, row[0], level, way) for ask in WITH_WAY)
                    pairs = way_bands(world, setting, row, level, way)
                    self.assertEqual(told, told_by_cases(pairs), (seed, row[0], level, way))


class NoSuchWay(unittest.TestCase):
    def test_the_numbers_below_and_beyond(self):
        for ask in WITH_WAY:
            for name, way in (("barn", 2), ("barn", -1), ("well", 1), ("well", -1), ("well", 99)):
                with self.assertRaises(NoWay) as caught:
                    ask(YARD, (0, 0, 0), name, 2 if name == "barn" else 1, way)
                self.assertEqual(caught.exception.way, way)

    def test_the_order_of_the_checks(self):
        for ask in WITH_WAY:
            for level, way in ((2, 0), (99, 0), (2, 99), (99, 99), (0, -1)):
                with self.assertRaises(NoZone) as caught:
                    ask(YARD, (0, 0, 0), "attic", level, way)
                self.assertEqual(caught.exception.zone, "attic")
            for level, way in ((1, 0), (6, 0), (1, 99), (6, -1)):
                with self.assertRaises(NoLevel) as caught:
                    ask(YARD, (0, 0, 0), "barn", level, way)
                self.assertEqual(caught.exception.level, level)


class WhatSpoils(unittest.TestCase):
    def told(self, *bands, limit=99):
        world, setting = one_way(*bands, limit=limit)
        found = spoilt(world, setting)
        self.assertIs(is_good(world, setting), not found)
        self.assertEqual({row[:3] for row in found} | {("z", 1, 0)}, {("z", 1, 0)})
        return [row[3] for row in found]

    def test_the_nearest_that_never_opens_and_nobody_else(self):
        self.assertEqual(self.told(None), ["a"])
        self.assertEqual(self.told(None, (1, 2)), ["a"])

    def test_the_nearest_beyond_the_limit(self):
        self.assertEqual(self.told((1, 5), limit=5), [])
        self.assertEqual(self.told((1, 5), limit=4), ["a"])
        self.assertEqual(self.told((5, 5), (5, 9), limit=4), ["a", "b"])

    def test_others_that_are_not_later_than_the_nearest(self):
        self.assertEqual(self.told((1, 3), (4, 9)), [])
        self.assertEqual(self.told((1, 3), (3, 9)), ["b"])
        self.assertEqual(self.told((3, 4), (1, 2)), ["b"])
        self.assertEqual(self.told((1, 3), (9, 9), (2, 2), None, (3, 3)), ["c", "e"])

    def test_others_do_not_spoil_one_another(self):
        self.assertEqual(self.told((1, 1), (2, 9), (2, 9)), [])

    def test_each_level_and_each_way(self):
        self.assertEqual(spoilt(YARD, (0, 0, 0)), [
            ("barn", 2, 1, "slow"), ("barn", 3, 1, "slow"), ("barn", 4, 1, "slow"), ("barn", 5, 1, "slow"),
            ("well", 1, 0, "far")])
        self.assertEqual(spoilt(YARD, (1, 1, 1)), [
            ("barn", 2, 0, "near"), ("barn", 2, 1, "slow"), ("barn", 3, 0, "near"), ("barn", 3, 1, "slow"),
            ("barn", 4, 0, "near"), ("barn", 4, 1, "slow"), ("barn", 5, 0, "near"), ("barn", 5, 1, "slow"),
            ("well", 1, 0, "far")])

    def test_rows_ascend_by_switch_not_by_place(self):
        world = (("a", (((1, 1, 1),),)), ("b", (((1, 5, 9),),))), (("z", 1, 1, 3, ((("b", 0), ("a", 0)),)),)
        self.assertEqual(spoilt(world, (0, 0)), [("z", 1, 0, "a"), ("z", 1, 0, "b")])

    def test_a_world_without_zones_is_good(self):
        self.assertEqual((spoilt(((), ()), ()), is_good(((), ()), ())), ([], True))
        self.assertIs(is_good((HOUSE[0], ()), (0, 0, 0)), True)

    def test_only_one_setting_of_the_house_is_good(self):
        settings = list(itertools.product(range(1), range(3), range(3)))
        self.assertEqual([setting for setting in settings if is_good(HOUSE, setting)], [(0, 1, 2)])

    def test_random_worlds_as_by_the_words(self):
        seen = [0, 0]
        for seed in range(400):
            world, setting = random_world(seed)
            found = spoilt_by_words(world, setting)
            self.assertEqual(spoilt(world, setting), found, seed)
            self.assertIs(is_good(world, setting), not found)
            seen[bool(found)] += 1
        self.assertGreater(min(seen), 20)

    def test_in_a_good_one_the_nearest_is_always_the_only_first_one(self):
        for seed in range(400):
            world, setting = random_world(seed)
            if is_good(world, setting):
                for row in world[1]:
                    for level, way in itertools.product(range(row[1], row[2] + 1), range(len(row[4]))):
                        nearest = row[4][way][0][0]
                        self.assertEqual(first_sets(world, setting, row[0], level, way), [(nearest,)])


if __name__ == "__main__":
    unittest.main()
