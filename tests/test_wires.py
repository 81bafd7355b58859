"""[10]: wires by which switches tell others to wait."""

import itertools
import random
import unittest

from sample import HOUSE, YARD, curves_of, ladder_world, large_world, listed, one_way, random_world, tick_at, wide_world
from tripladder.errors import NoSwitch
from tripladder.first import is_good, spoilt
from tripladder.wires import fewest_wires, needed, spoilt_by

MAKERS = (random_world, ladder_world, wide_world)
WITH_WIRES = (spoilt_by, needed)


def waited(curves, way, level, wires):
    """The bands of the switches of a way in its order, by the words of the document."""
    own = [tick_at(curves[name], level + more) for name, more in way]
    found = []
    for at, (name, _) in enumerate(way):
        counting = [0]
        for lower, upper, ticks in wires:
            for near in range(at):
                if (way[near][0], name) == (lower, upper) and own[near] is not None:
                    counting.append(ticks)
        found.append(own[at] and (own[at][0] + max(counting), own[at][1] + max(counting)))
    return found


def spoilt_by_words(world, setting, wires):
    """The rows of spoilt_by by the words of the document."""
    curves, found = curves_of(world, setting), set()
    for zone, low, high, limit, ways in world[1]:
        for level, (at, way) in itertools.product(range(low, high + 1), enumerate(ways)):
            own, *rest = waited(curves, way, level, wires)
            if own is None or own[1] > limit:
                found.add((zone, level, at, way[0][0]))
            for (name, _), ticks in zip(way[1:], rest):
                if own and ticks and ticks[0] <= own[1]:
                    found.add((zone, level, at, name))
    return sorted(found)


def fewest_by_search(world, setting, ticks):
    """What fewest_wires must tell, by trying all wires in order."""
    names = [name for name, _ in world[0]]
    wires = [(*pair, ticks) for pair in itertools.permutations(names, 2)]
    if spoilt_by_words(world, setting, wires):
        return None
    for many in range(len(wires) + 1):
        for some in itertools.combinations(wires, many):
            if not spoilt_by_words(world, setting, some):
                return some


def random_wires(source, world, most=5):
    """WIRES of a world, some of them between the same two."""
    pairs = list(itertools.permutations([name for name, _ in world[0]], 2))
    if not pairs:
        return ()
    return tuple(sorted({(*source.choice(pairs), source.randint(1, 4)) for _ in range(source.randint(0, most))}))


def loose(world):
    """The world with limits that nobody goes beyond."""
    return world[0], tuple((name, low, high, 99, ways) for name, low, high, _, ways in world[1])


def told(bands, wires, **more):
    """The switches of one way with these bands that spoil with the wires."""
    world, setting = one_way(*bands, **more)
    found = spoilt_by(world, setting, wires)
    assert {row[:3] for row in found} <= {("z", 1, 0)}
    return [row[3] for row in found]


class SpoiltBy(unittest.TestCase):
    def test_the_house(self):
        self.assertEqual(spoilt_by(HOUSE, (0, 1, 1), (("b", "c", 1),)), [])
        self.assertEqual(spoilt_by(HOUSE, (0, 1, 1), (("a", "c", 9),)), spoilt(HOUSE, (0, 1, 1)))

    def test_without_wires_as_spoilt(self):
        for seed, make in itertools.product(range(60), MAKERS):
            world, setting = make(seed)
            self.assertEqual(spoilt_by(world, setting, ()), spoilt(world, setting))

    def test_the_ticks_must_bring_it_behind_the_late_of_the_nearest(self):
        self.assertEqual([told([(1, 4), (2, 9)], (("a", "b", ticks),)) for ticks in (1, 2, 3, 4)], [["b"], ["b"], [], []])

    def test_the_upper_one_must_be_told_by_one_that_stands_nearer(self):
        self.assertEqual(told([(1, 4), (2, 9)], (("b", "a", 9),)), ["b"])
        self.assertEqual(told([(1, 4), (2, 9), (5, 5)], (("c", "b", 9),)), ["b"])
        self.assertEqual(told([(1, 4), (5, 9), (2, 2)], (("b", "c", 3),)), [])

    def test_one_that_never_opens_tells_nobody(self):
        self.assertEqual(told([(1, 4), None, (2, 9)], (("b", "c", 9),)), ["c"])
        self.assertEqual(told([(1, 4), None, (2, 9)], (("a", "c", 9),)), [])
        self.assertEqual(told([(1, 4), None, (2, 9)], (("a", "b", 9), ("a", "c", 9))), [])

    def test_one_that_only_opens_at_some_levels(self):
        switches = (("a", (((1, 4, 4),),)), ("b", (((3, 5, 5),),)), ("c", (((1, 2, 2),),)))
        world = switches, (("z", 1, 4, 9, ((("a", 0), ("b", 0), ("c", 0)),)),)
        self.assertEqual(spoilt_by(world, (0, 0, 0), (("b", "c", 3),)), [("z", 1, 0, "c"), ("z", 2, 0, "c")])

    def test_it_is_asked_what_the_lower_one_sees(self):
        switches = (("a", (((1, 4, 4),),)), ("b", (((3, 5, 5),),)), ("c", (((1, 2, 2),),)))
        world = switches, (("z", 2, 2, 9, ((("a", 0), ("b", 1), ("c", -1)),)),)
        self.assertEqual(spoilt_by(world, (0, 0, 0), (("b", "c", 3),)), [])
        world = switches, (("z", 2, 2, 9, ((("a", 1), ("b", 0), ("c", 1)),)),)
        self.assertEqual(spoilt_by(world, (0, 0, 0), (("b", "c", 3),)), [("z", 2, 0, "c")])

    def test_of_several_the_greatest_ticks_count_and_not_their_sum(self):
        bands = [(1, 4), (5, 5), (1, 1)]
        self.assertEqual(told(bands, (("a", "c", 3), ("b", "c", 2))), ["c"])
        self.assertEqual(told(bands, (("a", "c", 4), ("b", "c", 1))), [])
        self.assertEqual(told(bands, (("a", "c", 1), ("b", "c", 4))), [])
        self.assertEqual(told(bands, (("a", "c", 1), ("a", "c", 2))), ["c"])
        self.assertEqual(told(bands, (("a", "c", 1), ("a", "c", 4))), [])

    def test_greater_ticks_that_do_not_count_leave_the_lesser_ones(self):
        self.assertEqual(told([(1, 4), None, (2, 9)], (("a", "c", 3), ("b", "c", 9))), [])
        self.assertEqual(told([(1, 4), None, (2, 9)], (("a", "c", 1), ("b", "c", 9))), ["c"])

    def test_one_that_waits_is_not_a_cause_to_wait_longer(self):
        self.assertEqual(told([(1, 4), (2, 2), (2, 2)], (("a", "b", 9), ("b", "c", 1))), ["c"])

    def test_the_nearest_is_never_told_to_wait(self):
        self.assertEqual(told([(1, 4), (5, 5)], (("b", "a", 9),), limit=4), [])
        self.assertEqual(told([(1, 5), (6, 6)], (("a", "b", 9),), limit=4), ["a"])
        self.assertEqual(told([None, (5, 5)], (("a", "b", 9),)), ["a"])

    def test_a_late_that_waits_beyond_the_limit_is_no_matter(self):
        self.assertEqual(told([(1, 4), (2, 4)], (("a", "b", 60),), limit=4), [])

    def test_switches_that_stand_on_no_way_together(self):
        self.assertEqual(spoilt_by(YARD, (0, 0, 0), (("near", "slow", 60), ("slow", "far", 60))), spoilt(YARD, (0, 0, 0)))
        switches = tuple((name, (((1, 2, 2),),)) for name in "abc")
        world = switches, (("z", 1, 1, 9, ((("a", 0), ("b", 0)), (("c", 0),))),)
        self.assertEqual(spoilt_by(world, (0, 0, 0), (("c", "b", 9),)), [("z", 1, 0, "b")])

    def test_each_way_counts_by_itself(self):
        switches = tuple((name, (((1, 2, 2),),)) for name in "ab")
        world = switches, (("x", 1, 1, 9, ((("a", 0), ("b", 0)),)), ("y", 1, 1, 9, ((("b", 0), ("a", 0)),)))
        self.assertEqual(spoilt_by(world, (0, 0), (("a", "b", 1),)), [("y", 1, 0, "a")])
        self.assertEqual(spoilt_by(world, (0, 0), (("a", "b", 1), ("b", "a", 1))), [])

    def test_without_zones(self):
        self.assertEqual(spoilt_by(((), ()), (), ()), [])
        self.assertEqual(spoilt_by((HOUSE[0], ()), (0, 0, 0), (("a", "b", 1),)), [])

    def test_random_worlds_as_by_the_words(self):
        helped = 0
        for seed, make in itertools.product(range(300), MAKERS):
            world, setting = make(seed)
            wires = random_wires(random.Random(seed), world)
            found = spoilt_by(world, setting, wires)
            self.assertEqual(found, spoilt_by_words(world, setting, wires), (seed, make, wires))
            helped += found != spoilt(world, setting)
        self.assertGreater(helped, 60)


class FewestWires(unittest.TestCase):
    def test_the_house(self):
        self.assertEqual(fewest_wires(HOUSE, (0, 1, 1), 2), (("b", "c", 2),))
        self.assertEqual(fewest_wires(HOUSE, (0, 0, 0), 3), (("a", "b", 3), ("b", "c", 3)))

    def test_a_good_setting_needs_none(self):
        self.assertEqual(fewest_wires(HOUSE, (0, 1, 2), 1), ())

    def test_ticks_that_are_too_few(self):
        world, setting = one_way((1, 4), (2, 9))
        self.assertEqual([fewest_wires(world, setting, ticks) for ticks in (1, 2, 3, 60)],
                         [None, None, (("a", "b", 3),), (("a", "b", 60),)])

    def test_no_wires_help_a_nearest_that_is_late_or_never_opens(self):
        for bands, limit in (((None, (1, 1)), 9), ([None], 9), ([(1, 5)], 4), (((1, 5), (9, 9)), 4)):
            world, setting = one_way(*bands, limit=limit)
            self.assertIsNone(fewest_wires(world, setting, 60))

    def test_the_least_of_several(self):
        world, setting = one_way((1, 1), (2, 2), (1, 1))
        self.assertEqual(fewest_wires(world, setting, 5), (("a", "c", 5),))
        world = world[0], (("z", 1, 1, 9, ((("b", 0), ("a", 0), ("c", 0)),)),)
        self.assertEqual(fewest_wires(world, setting, 5), (("a", "c", 5), ("b", "a", 5)))

    def test_one_that_counts_at_all_faults_ahead_of_two(self):
        switches = tuple((name, (((1, 1, 1),),)) for name in "abcd")
        zones = (("x", 1, 1, 9, ((("a", 0), ("c", 0), ("d", 0)),)), ("y", 1, 1, 9, ((("b", 0), ("c", 0), ("d", 0)),)))
        told = fewest_wires((switches, zones), (0,) * 4, 1)
        self.assertEqual(told, (("a", "c", 1), ("b", "c", 1), ("c", "d", 1)))

    def test_one_that_never_opens_is_no_lower_one(self):
        world, setting = one_way((2, 2), None, (1, 1))
        names = {"a": "b", "b": "a", "c": "c"}
        switches = tuple(sorted((names[name], dials) for name, dials in world[0]))
        world = switches, (("z", 1, 1, 9, ((("b", 0), ("a", 0), ("c", 0)),)),)
        self.assertEqual(fewest_wires(world, setting, 2), (("b", "c", 2),))

    def test_without_zones(self):
        self.assertEqual(fewest_wires(((), ()), (), 1), ())
        self.assertEqual(fewest_wires((HOUSE[0], ()), (0, 0, 0), 1), ())

    def test_random_worlds_as_by_trying_all(self):
        seen = {}
        for seed, make in [*itertools.product(range(60), MAKERS), *itertools.product(range(60, 400), (wide_world,))]:
            world, setting = make(seed)
            world = loose(world) if seed % 2 else world
            if len(world[0]) <= 4:
                for ticks in (1, 3, 6):
                    told = fewest_wires(world, setting, ticks)
                    self.assertEqual(told, fewest_by_search(world, setting, ticks), (seed, make, ticks))
                    many = len(told) if told is not None else None
                    seen[many] = seen.get(many, 0) + 1
        self.assertGreater(min(seen.get(many, 0) for many in (None, 0, 1, 2, 3)), 9, seen)


class Needed(unittest.TestCase):
    def test_the_house(self):
        self.assertEqual(needed(HOUSE, (0, 1, 2), (("b", "c", 2),)), [])
        self.assertEqual(needed(HOUSE, (0, 1, 1), (("a", "b", 1), ("b", "c", 2))), [("b", "c", 2)])

    def test_two_that_stand_in_for_one_another(self):
        world, setting = one_way((1, 1), (2, 2), (1, 1))
        wires = ("a", "c", 1), ("b", "c", 1)
        self.assertEqual(needed(world, setting, wires), [])
        self.assertEqual(needed(world, setting, wires[:1]), [wires[0]])
        self.assertEqual(needed(world, setting, wires[1:]), [wires[1]])

    def test_two_between_the_same_ones(self):
        world, setting = one_way((1, 3), (1, 1))
        self.assertEqual(needed(world, setting, (("a", "b", 3), ("a", "b", 4))), [])
        self.assertEqual(needed(world, setting, (("a", "b", 2), ("a", "b", 4))), [("a", "b", 4)])

    def test_all_of_them_if_something_is_spoilt_with_all(self):
        world, setting = one_way((1, 3), (1, 1), (9, 9))
        wires = ("a", "b", 1), ("a", "c", 1), ("c", "a", 5)
        self.assertEqual(needed(world, setting, wires), list(wires))
        self.assertEqual(needed(YARD, (0, 0, 0), (("near", "slow", 1),)), [("near", "slow", 1)])

    def test_no_wires(self):
        self.assertEqual(needed(HOUSE, (0, 0, 0), ()), [])
        self.assertEqual(needed(((), ()), (), ()), [])

    def test_random_worlds_as_by_breaking_each(self):
        seen = set()
        for seed, make in itertools.product(range(200), MAKERS):
            world, setting = make(seed)
            source = random.Random(seed)
            for wires in (random_wires(source, world), fewest_wires(world, setting, 3) or ()):
                broken = [tuple(other for other in wires if other != wire) for wire in wires]
                expected = [wire for wire, rest in zip(wires, broken) if spoilt_by_words(world, setting, rest)]
                found = needed(world, setting, wires)
                self.assertEqual(found, expected, (seed, make, wires))
                seen.add((len(found) > 0, len(found) < len(wires)))
        self.assertEqual(len(seen), 4)

    def test_the_fewest_are_all_needed(self):
        for seed, make in itertools.product(range(150), MAKERS):
            world, setting = make(seed)
            wires = fewest_wires(world, setting, 4)
            if wires is not None:
                self.assertEqual(spoilt_by(world, setting, wires), [])
                self.assertEqual(needed(world, setting, wires), list(wires))
                self.assertIs(is_good(world, setting), wires == ())


class Wrong(unittest.TestCase):
    def test_the_first_lower_or_upper_that_is_none(self):
        for ask in WITH_WIRES:
            for wires, name in (((("x", "a", 1),), "x"), ((("a", "x", 1),), "x"), ((("y", "x", 1),), "y"),
                                ((("a", "hall", 1), ("aa", "b", 1)), "hall"), ([["a", "b", 1], ["b", "", 1]], ""),
                                ((("a", "b", 1), ("c", "z", 1), ("y", "a", 1)), "z")):
                with self.assertRaises(NoSwitch) as caught:
                    ask(HOUSE, (0, 0, 0), wires)
                self.assertEqual(vars(caught.exception), {"name": name})

    def test_in_worlds_without_zones(self):
        for ask in WITH_WIRES:
            for world, setting in ((((), ()), ()), ((HOUSE[0], ()), (0, 0, 0))):
                with self.assertRaises(NoSwitch) as caught:
                    ask(world, setting, (("q", "a", 1),))
                self.assertEqual(caught.exception.name, "q")


class Large(unittest.TestCase):
    def test_eight_pairs_on_one_way(self):
        switches = tuple((name, (((1, 2, 2),), ((1, 5, 5),))) for name in "abcdef")
        ways = (("a", 0), ("b", 0), ("c", 0), ("d", 0)), (("e", 0), ("f", 0))
        zones = (("x", 1, 12, 60, ways), ("y", 1, 12, 60, ((("e", 0),), (("b", 0), ("f", 0)))))
        world = switches, zones
        told = fewest_wires(world, (0,) * 6, 60)
        self.assertEqual(told, tuple((*pair, 60) for pair in ("ab", "ac", "ad", "bf", "ef")))
        self.assertEqual(spoilt_by_words(world, (0,) * 6, told), [])
        self.assertIsNone(fewest_wires(world, (1, 0, 0, 0, 0, 0), 3))
        self.assertEqual(len(fewest_wires(world, (1, 0, 0, 0, 0, 0), 4)), 5)

    def test_the_largest_world(self):
        world, setting = large_world(), (0, 0, 0, 0, 0, 0)
        told = fewest_wires(world, setting, 60)
        self.assertEqual((spoilt_by_words(world, setting, told), needed(world, setting, told)), ([], list(told)))

    def test_lists_for_tuples(self):
        self.assertEqual(repr(fewest_wires(listed(HOUSE), [0, 1, 1], 2)), "(('b', 'c', 2),)")
        self.assertEqual(repr(needed(listed(HOUSE), [0, 1, 1], [["b", "c", 2]])), "[('b', 'c', 2)]")


if __name__ == "__main__":
    unittest.main()
