"""[4]: worlds, settings, bands, and what a switch sees."""

import itertools
import random
import unittest

from sample import HOUSE, YARD, at_place, is_slower, listed, places, random_curve, random_world, tick_at, with_part
from tripladder.data import band, is_setting, is_world, opens, sees
from tripladder.errors import NoLevel, NoSwitch, NoZone

# Things of every other kind: none of them stands for a part of a world where it is not one already.
OTHERS = [None, True, False, 0, 1, -1, 7, "", "a", "A", "a1", "a b", "abcdefghi", "\xe4", "1", (), [], (0,), [0],
          ("a",), ("a", 0), ((1, 1, 1),), ((), ()), [[], []], (None, None), "ab", (((((((((((1,),),),),),),),),),),)]


def curve_world(*dials):
    """A world of one switch with these dials."""
    return (("s", dials),), ()


def zone_world(zone):
    """A world with the switches p and q and this zone."""
    return (("p", ((),)), ("q", ((),))), (zone,)


def zone(name="z", low=1, high=2, limit=3, ways=((("p", 0),),)):
    """A zone that is fit for zone_world."""
    return name, low, high, limit, ways


class Worlds(unittest.TestCase):
    def yes(self, *things):
        for thing in things:
            self.assertIs(is_world(thing), True, thing)

    def no(self, *things):
        for thing in things:
            self.assertIs(is_world(thing), False, thing)

    def test_whole_worlds(self):
        self.yes(HOUSE, YARD, ((), ()), curve_world(()), zone_world(zone()))
        for seed in range(200):
            self.yes(random_world(seed)[0])

    def test_things_of_every_other_kind(self):
        self.no(*[thing for thing in OTHERS if thing != ((), ())])
        self.no((), ((),), ((), (), ()), (HOUSE[0], None), (None, HOUSE[1]), (HOUSE[0], "a"), (3, ()))

    def test_zones_need_their_switches(self):
        self.no(((), HOUSE[1]), (HOUSE[0][1:], HOUSE[1]))
        self.yes((HOUSE[0], ()))

    def test_a_list_is_no_tuple_at_any_depth(self):
        self.no(listed(HOUSE), [(), ()], ([], ()), ((), []))
        for world in (HOUSE, YARD):
            for path in places(world):
                part = at_place(world, path)
                if isinstance(part, tuple):
                    self.no(with_part(world, path, list(part)))

    def test_a_truth_is_no_number_anywhere(self):
        for world in (HOUSE, YARD):
            for path in places(world):
                part = at_place(world, path)
                if isinstance(part, int):
                    self.no(with_part(world, path, True), with_part(world, path, False))
                    self.no(with_part(world, path, str(part)), with_part(world, path, None))

    def test_no_part_may_be_of_another_kind(self):
        for path in places(HOUSE):
            part = at_place(HOUSE, path)
            for other in OTHERS:
                if type(other) is not type(part):
                    self.no(with_part(HOUSE, path, other))

    def test_no_part_may_be_missing_and_none_may_be_added(self):
        for path in places(HOUSE):
            # The world, a switch or zone, a triple or pair: the tuples of a size that is fixed.
            if len(path) in (0, 2, 5):
                part = at_place(HOUSE, path)
                self.no(with_part(HOUSE, path, part + (1,)), with_part(HOUSE, path, part[:-1]))

    def test_names_of_switches(self):
        for name in ("a", "z", "abcdefgh", "zzzzzzzz"):
            self.yes((((name, ((),)),), ()))
        for name in ("", "abcdefghi", "A", "aB", "a1", "a b", " a", "a-", "a_", "a\n", "\xe4", "\xdf", "\u0430"):
            self.no((((name, ((),)),), ()))

    def test_names_of_zones(self):
        self.yes(zone_world(zone("a")), zone_world(zone("abcdefgh")), zone_world(zone("p")))
        self.no(zone_world(zone("")), zone_world(zone("abcdefghi")), zone_world(zone("Z")), zone_world(zone(1)))

    def test_names_ascend_without_duplicates(self):
        low, high = ("a", ((),)), ("b", ((),))
        self.yes(((low, high), ()))
        self.no(((high, low), ()), ((low, low), ()), ((low, high, high), ()), ((("b", ((),)), ("ab", ((),))), ()))
        self.yes((HOUSE[0], HOUSE[1]))
        self.no((HOUSE[0], HOUSE[1][::-1]), (HOUSE[0], HOUSE[1][:1] * 2))

    def test_a_switch_needs_a_dial(self):
        self.no((((("s", ())),), ()), curve_world(None), curve_world(((1, 1),)), curve_world(((1, 1, 1, 1),)))
        self.no(curve_world((1, 1, 1)), curve_world("abc"), ((("s",),), ()), ((("s", ((),), 0),), ()))

    def test_levels_of_a_curve(self):
        self.yes(curve_world(((1, 1, 1), (2, 1, 1))), curve_world(((100, 1, 1), (999, 1, 1))))
        self.no(curve_world(((0, 1, 1),)), curve_world(((-1, 1, 1),)), curve_world(((2, 1, 1), (2, 1, 1))))
        self.no(curve_world(((2, 1, 1), (1, 1, 1))))

    def test_ticks_of_a_curve(self):
        self.yes(curve_world(((1, 1, 1),)), curve_world(((1, 3, 9), (2, 3, 9))), curve_world(((1, 3, 9), (2, 1, 1))))
        self.no(curve_world(((1, 0, 1),)), curve_world(((1, -1, 1),)), curve_world(((1, 2, 1),)))
        self.no(curve_world(((1, 3, 9), (2, 4, 9))), curve_world(((1, 3, 9), (2, 3, 10))))

    def test_bounds_do_not_count(self):
        self.yes(curve_world(((10 ** 30, 10 ** 40, 10 ** 50),)), curve_world(*[()] * 50))
        self.yes(zone_world(zone(high=10 ** 20, limit=10 ** 20, ways=((("p", -10 ** 20),), (("q", 10 ** 20),)))))

    def test_a_later_dial_opens_nowhere_earlier(self):
        first = ((2, 5, 7), (4, 2, 3))
        self.yes(curve_world(first, first), curve_world(first, ()), curve_world(first, ((3, 5, 7),)))
        self.yes(curve_world(first, ((3, 5, 8), (4, 3, 3)), ((4, 3, 4),), ((9, 3, 4),)))
        self.no(curve_world((), first), curve_world(first, ((1, 9, 9),)), curve_world(first, ((2, 4, 7),)))
        self.no(curve_world(first, ((2, 5, 6),)), curve_world(first, ((2, 5, 7), (4, 1, 3))))
        self.no(curve_world(first, ((2, 5, 7), (4, 2, 2))), curve_world(first, ((2, 5, 7), (6, 1, 3))))
        self.no(curve_world(((1, 5, 5), (3, 4, 4)), ((2, 5, 5), (5, 3, 3))))
        self.no(curve_world(first, ((5, 3, 4),), ((4, 9, 9),)), curve_world(((1, 1, 1),), (), ((1, 1, 1),)))

    def test_dials_as_by_looking_at_every_level(self):
        source, seen = random.Random(4), [0, 0]
        for _ in range(3000):
            ahead, later = random_curve(source), random_curve(source)
            told = is_world(curve_world(ahead, later))
            self.assertIs(told, is_slower(ahead, later), (ahead, later))
            seen[told] += 1
        self.assertGreater(min(seen), 200)

    def test_levels_and_limit_of_a_zone(self):
        self.yes(zone_world(zone(low=1, high=1)), zone_world(zone(low=3, high=3, limit=1)))
        self.no(zone_world(zone(low=0)), zone_world(zone(low=-1, high=0)), zone_world(zone(low=3, high=2)))
        self.no(zone_world(zone(limit=0)), zone_world(zone(limit=-1)))

    def test_ways_of_a_zone(self):
        self.yes(zone_world(zone(ways=((("p", 0), ("q", -3)),))), zone_world(zone(ways=((("q", 9),), (("p", -99),)))))
        for ways in ((), ((),), ((("p", 0),), ()), (("p", 0),), ("p", 0), ((("p", 0, 0),),), ((("p",),),)):
            self.no(zone_world(zone(ways=ways)))
        for switch in ("r", "z", "", 0, None, (), [], ("p",), ["p"], True):
            self.no(zone_world(zone(ways=(((switch, 0),),))))

    def test_no_switch_twice_in_the_ways_of_a_zone(self):
        self.no(zone_world(zone(ways=((("p", 0), ("p", 0)),))), zone_world(zone(ways=((("p", 0),), (("p", 1),)))))
        self.no(zone_world(zone(ways=((("p", 0), ("q", 0)), (("q", 0),)))))
        switches, row = zone_world(zone())
        self.yes((switches, (*row, zone("zz"))))


class Settings(unittest.TestCase):
    def test_exactly_the_numbers_of_the_dials(self):
        counts = [range(-2, 5)] * 3
        told = [thing for thing in itertools.product(*counts) if is_setting(HOUSE, thing)]
        self.assertEqual(told, list(itertools.product(range(1), range(3), range(3))))

    def test_the_length(self):
        for thing in ((), (0,), (0, 0), (0, 0, 0, 0)):
            self.assertIs(is_setting(HOUSE, thing), False)
        self.assertIs(is_setting(((), ()), ()), True)
        self.assertIs(is_setting(((), ()), (0,)), False)

    def test_things_of_every_other_kind(self):
        for thing in [*OTHERS, [0, 0, 0], "abc", "000", (0, 0, False), (False, 0, 0), (0, True, 0), (0, 0, "0")]:
            self.assertIs(is_setting(HOUSE, thing), False, thing)
        for thing in ((0, None, 0), (0, (0,), 0), (0, [0], 0), (0, (), 0), HOUSE):
            self.assertIs(is_setting(HOUSE, thing), False, thing)
        self.assertIs(is_setting(((), ()), []), False)
        self.assertIs(is_setting(((), ()), None), False)

    def test_a_world_of_lists(self):
        self.assertIs(is_setting(listed(HOUSE), (0, 2, 2)), True)
        self.assertIs(is_setting(listed(HOUSE), [0, 2, 2]), False)


class Bands(unittest.TestCase):
    def test_the_last_triple_whose_level_is_not_greater(self):
        curve = ((2, 4, 5), (4, 1, 3))
        told = [band(curve, level) for level in (-20, 0, 1, 2, 3, 4, 5, 111)]
        self.assertEqual(told, [None, None, None, (4, 5), (4, 5), (1, 3), (1, 3), (1, 3)])

    def test_the_bare_curve_never_opens(self):
        self.assertEqual([band((), level) for level in (-1, 0, 1, 111)], [None] * 4)

    def test_as_by_looking_for_the_last_one(self):
        source = random.Random(5)
        for _ in range(300):
            curve = random_curve(source)
            for level in range(-1, 8):
                self.assertEqual(band(curve, level), tick_at(curve, level))

    def test_a_curve_of_lists_gives_a_tuple(self):
        self.assertEqual(band([[1, 2, 3]], 1), (2, 3))


class Sight(unittest.TestCase):
    def test_level_and_more_are_added_on_each_way(self):
        self.assertEqual(sees(YARD, "barn", 2), [[("near", 2), ("far", 5)], [("slow", 0)]])
        self.assertEqual(sees(YARD, "barn", 5), [[("near", 5), ("far", 8)], [("slow", 3)]])
        self.assertEqual(sees(YARD, "well", 1), [[("far", 1)]])

    def test_lists_of_pairs_even_from_a_world_of_lists(self):
        self.assertEqual(sees(listed(HOUSE), "attic", 1), [[("a", 1), ("b", 1), ("c", 3)]])

    def test_levels_just_below_and_just_beyond(self):
        for name, low, high in (("barn", 2, 5), ("well", 1, 1)):
            sees(YARD, name, low), sees(YARD, name, high)
            for level in (low - 1, high + 1, 0, -1, 999):
                with self.assertRaises(NoLevel) as caught:
                    sees(YARD, name, level)
                self.assertEqual(caught.exception.level, level)

    def test_no_zone_comes_ahead_of_no_level(self):
        for name in ("near", "", "Barn", "bar", "barns"):
            for level in (2, 99):
                with self.assertRaises(NoZone) as caught:
                    sees(YARD, name, level)
                self.assertEqual(caught.exception.zone, name)
        with self.assertRaises(NoZone):
            sees(((), ()), "barn", 2)


class Openings(unittest.TestCase):
    def test_the_dial_of_the_setting(self):
        self.assertEqual([opens(HOUSE, (0, dial, 0), "b", 2) for dial in range(3)], [(2, 3), (3, 4), (5, 6)])
        self.assertEqual([opens(HOUSE, (0, 1, dial), "c", 2) for dial in range(3)], [(2, 3), (4, 5), (6, 7)])

    def test_any_level_that_is_seen(self):
        told = [opens(YARD, (0, 0, 0), "near", level) for level in (-20, 0, 1, 2, 3, 4, 111)]
        self.assertEqual(told, [None, None, None, (5, 7), (5, 7), (2, 3), (2, 3)])
        self.assertIsNone(opens(YARD, (1, 2, 0), "near", 111))
        self.assertIsNone(opens(YARD, (1, 2, 0), "far", 111))

    def test_the_name_of_no_switch(self):
        for name in ("barn", "", "nea", "nearer", "Near"):
            with self.assertRaises(NoSwitch) as caught:
                opens(YARD, (0, 0, 0), name, 2)
            self.assertEqual(caught.exception.name, name)
        with self.assertRaises(NoSwitch):
            opens(((), ()), (), "a", 1)

    def test_lists_give_a_tuple(self):
        self.assertEqual(opens(listed(HOUSE), [0, 1, 2], "b", 2), (3, 4))


if __name__ == "__main__":
    unittest.main()
