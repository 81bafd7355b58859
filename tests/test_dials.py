"""[6]: the settings that are good: the least, the greatest, their number, and the way to them."""

import itertools
import unittest

from sample import HOUSE, PAIR, TICK, YARD, ladder_world, large_world, listed, one_way, random_world
from tripladder.dials import changed, fewest_changes, greatest_setting, held, how_many, least_setting, raised
from tripladder.errors import NoSwitch
from tripladder.first import is_good

BARE = ((), ())
LOOSE = (HOUSE[0], ())


def settings_of(world):
    """All SETTINGs of a world, ascending."""
    return list(itertools.product(*[range(len(dials)) for _, dials in world[0]]))


def good_of(world):
    """All good SETTINGs of a world, ascending, by looking at each."""
    return [setting for setting in settings_of(world) if is_good(world, setting)]


def is_below(low, high):
    """Whether no dial of the first one is greater."""
    return all(one <= other for one, other in zip(low, high))


def changes(one, other):
    """How many dials differ."""
    return sum(a != b for a, b in zip(one, other))


def sampled(seeds):
    """(world, setting, all good ones) of random worlds of both kinds."""
    for seed in seeds:
        for make in (random_world, ladder_world):
            world, setting = make(seed)
            yield world, setting, good_of(world)


class LeastAndGreatest(unittest.TestCase):
    def told(self, world):
        return least_setting(world), greatest_setting(world), how_many(world)

    def test_the_house_has_one(self):
        self.assertEqual(self.told(HOUSE), ((0, 1, 2), (0, 1, 2), 1))

    def test_a_world_without_switches_has_the_bare_setting(self):
        self.assertEqual(self.told(BARE), ((), (), 1))

    def test_a_world_without_zones_has_them_all(self):
        self.assertEqual(self.told(LOOSE), ((0, 0, 0), (0, 2, 2), 9))

    def test_two_that_wait_for_one_another_have_none(self):
        self.assertEqual(self.told(PAIR), (None, None, 0))

    def test_a_nearest_that_cannot_be_in_time_has_none(self):
        self.assertEqual(self.told(YARD), (None, None, 0))
        self.assertEqual(self.told(one_way(None)[0]), (None, None, 0))
        self.assertEqual(self.told(one_way((1, 5), limit=4)[0]), (None, None, 0))
        self.assertEqual(self.told(one_way((1, 5), limit=5)[0]), ((0,), (0,), 1))

    def test_one_that_never_opens_is_no_nearest_but_a_good_other(self):
        switches = (("p", TICK), ("q", (*TICK, ())))
        self.assertEqual(self.told((switches, (("z", 1, 1, 9, ((("p", 0), ("q", 0)),)),))), ((0, 1), (2, 3), 6))
        self.assertEqual(self.told((switches, (("z", 1, 1, 9, ((("q", 0), ("p", 0)),)),))), ((1, 0), (2, 1), 3))

    def test_the_limit_bounds_the_nearest_from_above(self):
        for limit, many in ((1, 3), (2, 6), (3, 9), (9, 9)):
            world = (("p", TICK), ("q", TICK)), (("z", 1, 1, limit, ((("p", 0),),)),)
            self.assertEqual(self.told(world), ((0, 0), (min(limit, 3) - 1, 2), many))

    def test_two_that_have_room_for_one_another(self):
        # Each sees more than the other one at its own fault, and is quicker there.
        dials = (((1, 5, 6), (2, 1, 1)), ((1, 6, 7), (2, 2, 2)), ((1, 7, 8), (2, 3, 3)))
        zones = ("x", 2, 2, 9, ((("p", 0), ("q", -1)),)), ("y", 2, 2, 9, ((("q", 0), ("p", -1)),))
        self.assertEqual(self.told(((("p", dials), ("q", dials)), zones)), ((0, 0), (2, 2), 9))

    def test_every_level_of_a_zone_counts(self):
        dials = (((1, 1, 1),), ((1, 2, 2),), ((1, 3, 3),))
        first = (((1, 2, 2), (3, 1, 1)),)
        told = [least_setting(((("p", first), ("q", dials)), (("z", low, high, 9, ((("p", 0), ("q", 0)),)),)))
                for low, high in ((1, 1), (1, 3), (2, 3), (3, 3))]
        self.assertEqual(told, [(0, 2), (0, 2), (0, 2), (0, 1)])

    def test_every_way_of_a_zone_counts(self):
        switches = tuple((name, TICK) for name in "pqrs")
        ways = (("p", 0), ("q", 0)), (("s", 0), ("r", 0))
        self.assertEqual(self.told((switches, (("z", 1, 1, 9, ways),))), ((0, 1, 1, 0), (1, 2, 2, 1), 9))

    def test_random_worlds_as_by_looking_at_each_setting(self):
        seen = {0: 0, 1: 0, 2: 0}
        for world, _, good in sampled(range(250)):
            least, greatest, many = self.told(world)
            self.assertEqual(many, len(good), world)
            self.assertEqual((least, greatest), (good[0], good[-1]) if good else (None, None), world)
            for setting in good:
                self.assertTrue(is_below(least, setting) and is_below(setting, greatest), world)
            seen[min(many, 2)] += 1
        self.assertGreater(min(seen.values()), 10)

    def test_the_largest_worlds(self):
        self.assertEqual(self.told(large_world()), ((0, 1, 2, 3, 3, 3), (0, 1, 2, 3, 3, 3), 1))
        self.assertEqual(self.told(large_world(limit=33)), (None, None, 0))
        self.assertEqual(self.told((large_world()[0], ())), ((0,) * 6, (3,) * 6, 4096))
        world = large_world(("abcdef", "acdefb"), high=1)
        good = good_of(world)
        self.assertEqual(self.told(world), (good[0], good[-1], len(good)))
        self.assertGreater(len(good), 100)


class RaisedAndHeld(unittest.TestCase):
    def test_the_dials_of_the_house(self):
        self.assertEqual([raised(HOUSE, setting) for setting in ((0, 0, 0), (0, 1, 0), (0, 1, 2))], [(0, 1, 2)] * 3)
        self.assertEqual([raised(HOUSE, setting) for setting in ((0, 2, 0), (0, 2, 2))], [None] * 2)

    def test_raising_one_raises_those_that_wait_for_it(self):
        world = (("p", TICK), ("q", TICK)), (("z", 1, 1, 9, ((("p", 0), ("q", 0)),)),)
        told = {setting: raised(world, setting) for setting in settings_of(world)}
        self.assertEqual(told, {
            (0, 0): (0, 1), (0, 1): (0, 1), (0, 2): (0, 2), (1, 0): (1, 2), (1, 1): (1, 2), (1, 2): (1, 2),
            (2, 0): None, (2, 1): None, (2, 2): None})

    def test_held_ones_keep_their_dials_and_no_others(self):
        world = (("p", TICK), ("q", TICK)), (("z", 1, 1, 9, ((("p", 0), ("q", 0)),)),)
        self.assertEqual([held(world, (1, 1), names) for names in ((), ("p",), ("q",), ("p", "q"))],
                         [(0, 1), (1, 2), (0, 1), None])
        self.assertEqual([held(world, (2, 0), names) for names in ((), ("p",), ("q",), ("p", "q"))],
                         [(0, 1), None, None, None])
        self.assertEqual(held(HOUSE, (0, 1, 2), ("a", "b", "c")), (0, 1, 2))

    def test_worlds_without_switches_or_zones(self):
        self.assertEqual((raised(BARE, ()), held(BARE, (), ())), ((), ()))
        self.assertEqual((raised(LOOSE, (0, 1, 2)), held(LOOSE, (0, 1, 2), ("b",))), ((0, 1, 2), (0, 1, 0)))

    def test_a_world_without_a_good_one(self):
        self.assertEqual((raised(PAIR, (0, 1)), held(PAIR, (0, 1), ()), held(PAIR, (0, 1), ("p",))), (None,) * 3)

    def test_the_first_name_of_no_switch(self):
        for names, first in ((("",), ""), (("a", "b", "x", "y"), "x"), (("attic", "b"), "attic"), (("aa",), "aa")):
            with self.assertRaises(NoSwitch) as caught:
                held(HOUSE, (0, 2, 2), names)
            self.assertEqual(caught.exception.name, first)
        for world, setting in ((PAIR, (0, 0)), (BARE, ())):
            with self.assertRaises(NoSwitch) as caught:
                held(world, setting, ["x"])
            self.assertEqual(caught.exception.name, "x")

    def test_random_worlds_as_by_looking_at_each_setting(self):
        for world, _, good in sampled(range(100)):
            for setting in settings_of(world)[::5]:
                above = [other for other in good if is_below(setting, other)]
                self.assertEqual(raised(world, setting), min(above, default=None), (world, setting))

    def test_random_held_ones_as_by_looking_at_each_setting(self):
        seen = [0, 0]
        for world, setting, good in sampled(range(150)):
            names = [name for name, _ in world[0]]
            for many in range(len(names) + 1):
                for some in itertools.combinations(names, many):
                    left = [other for other in good if all(
                        one == kept or name not in some for name, one, kept in zip(names, other, setting))]
                    found = held(world, setting, some)
                    self.assertEqual(found, min(left, default=None), (world, setting, some))
                    self.assertTrue(found is None or all(is_below(found, other) for other in left))
                    seen[found is None] += 1
        self.assertGreater(min(seen), 300)

    def test_the_largest_world(self):
        world = large_world(("abcdef", "bcdfae"))
        self.assertEqual(raised(world, (0,) * 6), (0, 1, 2, 2, 0, 2))
        self.assertEqual(raised(world, (1, 0, 0, 3, 2, 0)), (1, 2, 3, 3, 2, 3))
        self.assertEqual(held(world, (1, 3, 3, 3, 2, 1), ("a", "e")), (1, 2, 3, 3, 2, 3))
        self.assertIsNone(held(world, (1, 3, 3, 3, 2, 1), ("a", "e", "f")))


class Changes(unittest.TestCase):
    def told(self, world, setting):
        return fewest_changes(world, setting), changed(world, setting)

    def test_the_house(self):
        told = [self.told(HOUSE, setting)[0] for setting in settings_of(HOUSE)]
        self.assertEqual(told, [2, 2, 1, 1, 1, 0, 2, 2, 1])
        self.assertEqual({changed(HOUSE, setting) for setting in settings_of(HOUSE)}, {(0, 1, 2)})

    def test_a_good_one_stays(self):
        self.assertEqual(self.told(BARE, ()), (0, ()))
        self.assertEqual(self.told(LOOSE, (0, 2, 1)), (0, (0, 2, 1)))

    def test_none_is_good(self):
        for setting in settings_of(PAIR):
            self.assertEqual(self.told(PAIR, setting), (None, None))

    def test_fewer_changes_go_ahead_of_less_dials(self):
        world = (("p", TICK), ("q", TICK)), (("z", 1, 1, 9, ((("p", 0), ("q", 0)),)),)
        self.assertEqual(self.told(world, (1, 0)), (1, (1, 2)))
        self.assertEqual(self.told(world, (1, 1)), (1, (0, 1)))
        self.assertEqual(self.told(world, (2, 2)), (1, (0, 2)))
        self.assertEqual(self.told(world, (2, 0)), (2, (0, 1)))

    def test_random_worlds_as_by_looking_at_each_setting(self):
        seen = set()
        for world, _, good in sampled(range(100)):
            for setting in settings_of(world)[::3]:
                fewest = min([changes(setting, other) for other in good], default=None)
                least = min([other for other in good if changes(setting, other) == fewest], default=None)
                self.assertEqual(self.told(world, setting), (fewest, least), (world, setting))
                seen.add(fewest)
        self.assertEqual(seen, {None, 0, 1, 2, 3, 4})

    def test_the_largest_worlds(self):
        self.assertEqual(self.told(large_world(), (3,) * 6), (3, (0, 1, 2, 3, 3, 3)))
        self.assertEqual(self.told(large_world(), (1, 0, 0, 0, 0, 0)), (6, (0, 1, 2, 3, 3, 3)))
        self.assertEqual(self.told(large_world(limit=33), (3,) * 6), (None, None))


class Lists(unittest.TestCase):
    def test_settings_are_tuples_even_from_lists(self):
        world = listed(HOUSE)
        for found in (least_setting(world), greatest_setting(world), raised(world, [0, 1, 0]),
                      held(world, [0, 1, 0], ["a", "b"]), changed(world, [0, 2, 2])):
            self.assertEqual(repr(found), "(0, 1, 2)")
        self.assertEqual((how_many(world), fewest_changes(world, [0, 2, 1])), (1, 2))


if __name__ == "__main__":
    unittest.main()
