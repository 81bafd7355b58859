"""[8]: heat that switches remember, and the rows of faults by which they melt."""

import itertools
import random
import unittest

from sample import HOUSE, ladder_world, large_world, listed, one_way, random_world
from tripladder.data import sees
from tripladder.errors import NoLevel, NoZone
from tripladder.first import cut_by
from tripladder.heat import forever, gains, heats, least_pause, melt, never, shortest

GOOD = (0, 1, 2)
LAMP = (("c", 5, ((1, 1),), 1),)
LAMPS = (("attic", 1, 1),) * 5
WITH_ROW = (heats, melt, forever)


def faults_of(world):
    """All pairs (zone, level)."""
    return [(row[0], level) for row in world[1] for level in range(row[1], row[2] + 1)]


def is_cut(world, setting):
    """Whether at each fault some switch opens on each way."""
    return all(cut_by(world, setting, zone, level, way) is not None
               for zone, level in faults_of(world) for way in range(len(sees(world, zone, level))))


def gain_of(heater, level):
    """The heat of one tick for what the switch sees."""
    fit = [heat for start, heat in heater[2] if start <= level]
    return fit[-1] if fit else 0


def lasting(world, setting, zone, level):
    """For each switch on a way of the fault what it sees, and the tick to which this lasts."""
    found = {}
    for way, seen in enumerate(sees(world, zone, level)):
        for name, sight in seen:
            found[name] = sight, cut_by(world, setting, zone, level, way)
    return found


def after_fault(world, setting, heaters, state, fault):
    """The pair (heats when the fault is over, what melts or None), tick by tick."""
    spans, state = lasting(world, setting, *fault), list(state)
    for tick in range(1, max([end for _, end in spans.values()], default=0) + 1):
        for at, heater in enumerate(heaters):
            if heater[0] in spans and tick <= spans[heater[0]][1]:
                state[at] += gain_of(heater, spans[heater[0]][0])
        melted = [heater[0] for heater, heat in zip(heaters, state) if heat >= heater[1]]
        if melted:
            return None, min(melted)
    return tuple(state), None


def after_pause(heaters, state, pause):
    """The heats behind the pause, tick by tick."""
    for _ in range(pause):
        state = tuple(max(heat - heater[3], 0) for heater, heat in zip(heaters, state))
    return state


def played(world, setting, heaters, row):
    """The pair (heats, melt) by going through each tick."""
    state, found = (0,) * len(heaters), []
    for at, (zone, level, pause) in enumerate(row):
        state, melted = after_fault(world, setting, heaters, state, (zone, level))
        if melted:
            return found, (at, melted)
        found.append(state)
        state = after_pause(heaters, state, pause)
    return found, None


def shortest_by_search(world, setting, heaters, pauses):
    """The least number of faults, with any of these pauses behind each, by which something melts; None."""
    known, edge, many = {(0,) * len(heaters)}, {(0,) * len(heaters)}, 0
    while edge:
        many, reached = many + 1, set()
        for state, fault in itertools.product(edge, faults_of(world)):
            later, melted = after_fault(world, setting, heaters, state, fault)
            if melted:
                return many
            reached |= {after_pause(heaters, later, pause) for pause in pauses}
        edge = reached - known
        known |= edge
    return None


def random_heaters(source, world, room):
    """HEATERS of some switches of a world."""
    names = [name for name, _ in world[0]]
    found = []
    for name in sorted(source.sample(names, source.randint(0, min(3, len(names))))):
        levels = sorted(source.sample(range(1, 5), source.randint(0, 3)))
        steps = zip(levels, sorted(source.randint(0, 4) for _ in levels))
        found.append((name, source.randint(1, room), tuple(steps), source.randint(0, 3)))
    return tuple(found)


def warm_cases(seeds, room=14):
    """(source, world, setting, heaters) of random worlds whose faults are all cut."""
    for seed in seeds:
        for make in (random_world, ladder_world):
            source = random.Random(seed)
            world, setting = make(seed)
            if is_cut(world, setting):
                yield source, world, setting, random_heaters(source, world, room)


def random_row(source, world, most=5):
    """A row of faults."""
    faults = faults_of(world)
    many = source.randint(0, most) if faults else 0
    return tuple((*source.choice(faults), source.randint(0, 4)) for _ in range(many))


class Rows(unittest.TestCase):
    def told(self, heaters, row):
        return heats(HOUSE, GOOD, heaters, row), melt(HOUSE, GOOD, heaters, row)

    def test_the_lamps_of_the_document(self):
        self.assertEqual(self.told(LAMP, LAMPS), ([(2,), (3,), (4,)], (3, "c")))

    def test_no_heaters_and_no_faults(self):
        self.assertEqual(self.told((), LAMPS), ([()] * 5, None))
        self.assertEqual(self.told(LAMP, ()), ([], None))
        self.assertEqual((heats(((), ()), (), (), ()), melt(((), ()), (), (), ())), ([], None))

    def test_the_pause_cools_by_its_ticks_but_never_below_nothing(self):
        told = [heats(HOUSE, GOOD, LAMP, (("attic", 1, pause), ("attic", 1, 0))) for pause in range(4)]
        self.assertEqual(told, [[(2,), (4,)], [(2,), (3,)], [(2,), (2,)], [(2,), (2,)]])
        told = heats(HOUSE, GOOD, (("c", 50, ((1, 3),), 4),), (("attic", 1, 1), ("attic", 1, 2), ("attic", 1, 0)))
        self.assertEqual(told, [(6,), (8,), (6,)])

    def test_the_heat_is_told_ahead_of_the_last_pause(self):
        self.assertEqual(heats(HOUSE, GOOD, LAMP, (("attic", 1, 99),)), [(2,)])

    def test_one_that_never_cools(self):
        heaters = (("c", 9, ((1, 2),), 0),)
        self.assertEqual(self.told(heaters, (("attic", 1, 99),) * 4), ([(4,), (8,)], (2, "c")))

    def test_the_room_itself_melts_and_one_less_does_not(self):
        self.assertEqual(self.told((("c", 2, ((1, 1),), 1),), LAMPS), ([], (0, "c")))
        self.assertEqual(self.told((("c", 3, ((1, 1),), 2),), LAMPS), ([(2,)] * 5, None))

    def test_the_step_by_what_the_switch_sees(self):
        # On the way of the attic c sees 2 more than a and b.
        heaters = tuple((name, 99, ((2, 1), (3, 5), (5, 7)), 0) for name in "abc")
        told = [heats(HOUSE, GOOD, heaters, (("attic", level, 0),)) for level in (1, 2, 3)]
        self.assertEqual(told, [[(0, 0, 10)], [(2, 2, 10)], [(10, 10, 14)]])

    def test_no_step_no_heat(self):
        self.assertEqual(self.told((("c", 1, (), 0), ), LAMPS), ([(0,)] * 5, None))
        self.assertEqual(self.told((("c", 1, ((1, 0), (3, 0)), 0), ), LAMPS), ([(0,)] * 5, None))

    def test_one_on_no_way_of_the_fault_neither_gains_nor_loses_in_it(self):
        heaters = ("a", 99, ((1, 3),), 2), ("c", 99, ((1, 3),), 0)
        row = ("attic", 1, 0), ("hall", 1, 0), ("hall", 1, 1), ("hall", 1, 2)
        self.assertEqual(heats(HOUSE, GOOD, heaters, row), [(6, 6), (6, 18), (6, 30), (4, 42)])

    def test_one_on_a_way_that_was_cut_earlier_keeps_its_heat(self):
        switches = ("p", (((1, 2, 3),),)), ("q", (((1, 5, 8),),))
        world = switches, (("z", 1, 1, 9, ((("p", 0),), (("q", 0),))),)
        heaters = ("p", 99, ((1, 1),), 2), ("q", 99, ((1, 1),), 2)
        self.assertEqual(heats(world, (0, 0), heaters, (("z", 1, 1),) * 3), [(3, 8), (4, 14), (5, 20)])

    def test_a_fault_lasts_to_the_greatest_tick_of_the_first_ones(self):
        for bands in (((1, 4), (2, 3)), ((9, 9), (3, 3)), (None, (1, 3)), ((2, 3), None)):
            world, setting = one_way(*bands)
            self.assertEqual(heats(world, setting, (("a", 99, ((1, 1),), 0),), (("z", 1, 0),)), [(3,)])

    def test_the_first_tick_tells_what_melts(self):
        def told(*rooms):
            world, setting = one_way((9, 9), None, None)
            return melt(world, setting, tuple((name, room, ((1, heat),), 0) for name, (room, heat) in zip("abc", rooms)),
                        (("z", 1, 0),))
        self.assertEqual(told((9, 1), (8, 1), (9, 1)), (0, "b"))
        self.assertEqual(told((8, 1), (8, 1), (8, 1)), (0, "a"))
        self.assertEqual(told((10, 1), (9, 1), (9, 1)), (0, "b"))
        self.assertEqual(told((10, 1), (10, 1), (9, 1)), (0, "c"))
        self.assertEqual(told((10, 1), (10, 1), (10, 1)), None)
        self.assertEqual(told((10, 3), (7, 2), (4, 1)), (0, "a"))
        self.assertEqual(told((10, 3), (5, 2), (3, 1)), (0, "b"))
        self.assertEqual(told((10, 3), (7, 2), (3, 1)), (0, "c"))
        self.assertEqual(told((2, 1), (7, 3), (99, 1)), (0, "a"))
        self.assertEqual(told((3, 1), (6, 3), (99, 1)), (0, "b"))

    def test_what_melts_is_told_in_ticks_from_the_heat_that_was_left(self):
        world, setting = one_way((2, 2), None)
        heaters = ("a", 5, ((1, 2),), 1), ("b", 8, ((1, 3),), 0)
        # At the second fault b begins with 6 and melts at tick 1; so does a, unless it has cooled to 2.
        self.assertEqual(melt(world, setting, heaters, (("z", 1, 0),) * 2), (1, "a"))
        self.assertEqual(melt(world, setting, heaters, (("z", 1, 2),) * 2), (1, "b"))

    def test_random_rows_as_by_each_tick(self):
        seen = [0, 0]
        for source, world, setting, heaters in warm_cases(range(400)):
            for _ in range(3):
                row = random_row(source, world, 8)
                told = heats(world, setting, heaters, row), melt(world, setting, heaters, row)
                self.assertEqual(told, played(world, setting, heaters, row), (world, setting, heaters, row))
                seen[told[1] is not None] += 1
        self.assertGreater(min(seen), 200)


class WrongRows(unittest.TestCase):
    def error(self, ask, row, heaters=LAMP):
        with self.assertRaises(LookupError) as caught:
            ask(HOUSE, GOOD, heaters, row)
        return type(caught.exception), vars(caught.exception)

    def test_a_zone_or_a_level_that_is_none(self):
        for ask in WITH_ROW:
            for zone in ("", "a", "c", "halls"):
                for level in (0, 1, 99):
                    self.assertEqual(self.error(ask, ((zone, level, 0),)), (NoZone, {"zone": zone}))
            for level in (-1, 0, 4, 99):
                self.assertEqual(self.error(ask, (("hall", level, 0),)), (NoLevel, {"level": level}))

    def test_the_first_triple_decides(self):
        for ask in WITH_ROW:
            self.assertEqual(self.error(ask, (("hall", 1, 0), ("hall", 7, 0), ("x", 1, 0))), (NoLevel, {"level": 7}))
            self.assertEqual(self.error(ask, (("hall", 1, 0), ("x", 7, 0), ("hall", 8, 0))), (NoZone, {"zone": "x"}))

    def test_also_behind_a_fault_that_melts(self):
        for ask in WITH_ROW:
            self.assertEqual(self.error(ask, (*LAMPS, ("y", 1, 1)), (("c", 1, ((1, 9),), 0),)), (NoZone, {"zone": "y"}))
            self.assertEqual(self.error(ask, [*LAMPS, ["hall", 0, 1]]), (NoLevel, {"level": 0}))

    def test_without_heaters_and_in_a_world_without_zones(self):
        for ask in WITH_ROW:
            self.assertEqual(self.error(ask, (("y", 1, 1),), ()), (NoZone, {"zone": "y"}))
            with self.assertRaises(NoZone):
                ask(((), ()), (), (), (("a", 1, 0),))


class AllRows(unittest.TestCase):
    def test_the_heaters_of_the_document(self):
        self.assertEqual((gains(HOUSE, GOOD, LAMP), shortest(HOUSE, GOOD, LAMP, 1)), ([4], 2))
        self.assertEqual([never(HOUSE, GOOD, LAMP, pause) for pause in range(6)], [False] * 4 + [True] * 2)
        self.assertEqual(least_pause(HOUSE, GOOD, LAMP), 4)

    def test_without_heaters_or_faults_nothing_melts(self):
        for world, setting, heaters in ((HOUSE, GOOD, ()), ((HOUSE[0], ()), GOOD, LAMP), (((), ()), (), ())):
            self.assertEqual(gains(world, setting, heaters), [0] * len(heaters))
            self.assertEqual([never(world, setting, heaters, 0), shortest(world, setting, heaters, 0)], [True, None])
            self.assertEqual(least_pause(world, setting, heaters), 0)

    def test_gains_are_the_greatest_of_all_faults_as_if_nothing_melted(self):
        heaters = tuple((name, 1, ((1, 1), (3, 2)), 1) for name in "abc")
        self.assertEqual(gains(HOUSE, GOOD, heaters), [4, 8, 8])
        self.assertEqual(gains(HOUSE, GOOD, (("a", 1, ((4, 9),), 0), ("c", 1, ((5, 9),), 0))), [0, 18])

    def test_a_fault_that_melts_by_itself(self):
        heaters = (("c", 4, ((1, 1),), 9),)
        self.assertEqual([never(HOUSE, GOOD, heaters, pause) for pause in (0, 1, 99)], [False] * 3)
        self.assertEqual([shortest(HOUSE, GOOD, heaters, pause) for pause in (0, 1, 99)], [1] * 3)
        self.assertIsNone(least_pause(HOUSE, GOOD, heaters))

    def test_one_that_never_cools_melts_whatever_the_pause(self):
        heaters = (("c", 13, ((1, 1),), 0),)
        self.assertEqual([never(HOUSE, GOOD, heaters, pause) for pause in (0, 99)], [False] * 2)
        self.assertEqual([shortest(HOUSE, GOOD, heaters, pause) for pause in (0, 99)], [4, 4])
        self.assertIsNone(least_pause(HOUSE, GOOD, heaters))

    def test_one_that_gains_nothing_never_melts(self):
        heaters = (("c", 1, ((1, 0), (6, 9)), 0),)
        self.assertEqual([never(HOUSE, GOOD, heaters, 0), shortest(HOUSE, GOOD, heaters, 0)], [True, None])
        self.assertEqual(least_pause(HOUSE, GOOD, heaters), 0)

    def test_pauses_of_nothing(self):
        self.assertEqual([never(HOUSE, GOOD, LAMP, 0), shortest(HOUSE, GOOD, LAMP, 0)], [False, 2])
        self.assertEqual(shortest(HOUSE, GOOD, (("c", 8, ((1, 1),), 9),), 0), 2)
        self.assertEqual(shortest(HOUSE, GOOD, (("c", 9, ((1, 1),), 9),), 0), 3)

    def test_a_pause_that_just_cools_and_one_tick_less(self):
        for cools, pause in ((1, 4), (2, 2), (3, 2), (4, 1), (9, 1)):
            heaters = (("c", 100, ((1, 1),), cools),)
            self.assertEqual(least_pause(HOUSE, GOOD, heaters), pause)
            self.assertEqual([never(HOUSE, GOOD, heaters, pause - 1), never(HOUSE, GOOD, heaters, pause)], [False, True])
            self.assertIsNone(shortest(HOUSE, GOOD, heaters, pause))
            self.assertIsNotNone(shortest(HOUSE, GOOD, heaters, pause - 1))

    def test_the_worst_of_several_heaters_decides(self):
        heaters = ("a", 99, ((1, 1),), 1), ("b", 9, ((1, 1),), 2), ("c", 6, ((1, 1),), 3)
        self.assertEqual(gains(HOUSE, GOOD, heaters), [2, 4, 4])
        self.assertEqual(least_pause(HOUSE, GOOD, heaters), 2)
        self.assertEqual([shortest(HOUSE, GOOD, heaters, pause) for pause in (0, 1, 2)], [2, 3, None])
        self.assertIsNone(least_pause(HOUSE, GOOD, (*heaters[:2], ("c", 6, ((1, 1),), 0))))

    def test_random_worlds_as_by_the_words(self):
        seen = [0, 0]
        for _, world, setting, heaters in warm_cases(range(250)):
            blank = (0,) * len(heaters)
            loose = tuple((name, 10 ** 9, steps, cools) for name, _, steps, cools in heaters)
            ends = [after_fault(world, setting, loose, blank, fault)[0] for fault in faults_of(world)]
            self.assertEqual(gains(world, setting, heaters), [max(part) for part in zip(blank, *ends)])
            pauses = []
            for pause in range(5):
                told = shortest(world, setting, heaters, pause)
                self.assertEqual(told, shortest_by_search(world, setting, heaters, [pause]), (world, setting, heaters))
                # Longer pauses are pauses that are at least so long, too.
                kept = shortest_by_search(world, setting, heaters, [pause, pause + 1, pause + 3]) is None
                self.assertIs(never(world, setting, heaters, pause), kept, (world, setting, heaters))
                pauses += [pause] * kept
                seen[kept] += 1
            least = least_pause(world, setting, heaters)
            self.assertEqual(pauses[:1], [least] if least is not None and least < 5 else [])
            if least is None:
                self.assertIs(never(world, setting, heaters, 10 ** 6), False)
            else:
                self.assertIs(never(world, setting, heaters, least), True)
                self.assertIs(least > 0 and never(world, setting, heaters, least - 1), False)
        self.assertGreater(min(seen), 200)


class Forever(unittest.TestCase):
    def test_the_row_of_the_document(self):
        self.assertIs(forever(HOUSE, GOOD, LAMP, (("attic", 1, 1), ("attic", 1, 3))), True)
        self.assertIs(forever(HOUSE, GOOD, LAMP, (("attic", 1, 1), ("attic", 1, 2))), False)

    def test_the_bare_row(self):
        self.assertIs(forever(HOUSE, GOOD, LAMP, ()), True)
        self.assertIs(forever(HOUSE, GOOD, (("c", 1, ((1, 9),), 0),), ()), True)
        self.assertIs(forever(((), ()), (), (), ()), True)

    def test_without_heaters(self):
        self.assertIs(forever(HOUSE, GOOD, (), LAMPS), True)

    def test_a_row_that_melts_at_once(self):
        self.assertIs(forever(HOUSE, GOOD, (("c", 2, ((1, 1),), 9),), (("attic", 1, 99),)), False)

    def test_a_row_that_melts_the_second_time_only(self):
        # The first time begins cold, each later one with what the last fault left.
        row = ("attic", 1, 9), ("hall", 1, 2)
        self.assertIs(forever(HOUSE, GOOD, (("c", 5, ((1, 1),), 1),), row), True)
        row = ("hall", 1, 9), ("hall", 1, 2)
        self.assertIs(forever(HOUSE, GOOD, (("c", 5, ((1, 1),), 1),), row), False)
        self.assertIs(forever(HOUSE, GOOD, (("c", 7, ((1, 1),), 1),), row), True)

    def test_heat_that_grows_slowly_melts_in_the_end(self):
        row = (("attic", 1, 1),)
        self.assertIs(forever(HOUSE, GOOD, (("c", 10 ** 9, ((1, 1),), 1),), row), False)
        self.assertIs(forever(HOUSE, GOOD, (("c", 10 ** 9, ((1, 1),), 2),), row), True)
        self.assertIs(forever(HOUSE, GOOD, (("c", 10 ** 9, ((1, 1),), 0),), (("attic", 1, 10 ** 9),)), False)

    def test_random_rows_as_by_repeating_them(self):
        seen = {"at once": 0, "in the end": 0, "never": 0}
        for source, world, setting, heaters in warm_cases(range(900), 30):
            row = random_row(source, world)
            times = sum(heater[1] for heater in heaters) + 2
            _, melted = played(world, setting, heaters, row * times)
            self.assertIs(forever(world, setting, heaters, row), melted is None, (world, setting, heaters, row))
            seen["never" if melted is None else "in the end" if melted[0] >= 2 * len(row) else "at once"] += 1
        self.assertGreater(min(seen.values()), 20, seen)


class Large(unittest.TestCase):
    def test_the_largest_world(self):
        world, setting = large_world(), (0, 1, 2, 3, 3, 3)
        heaters = tuple((name, 100, ((1, 1), (5, 1), (7, 2), (9, 2), (12, 3), (20, 3)), at)
                        for at, name in enumerate("abcdef"))
        row = tuple((zone, level, 3) for zone, level in zip("rstuvwrs", (1, 12, 3, 4, 7, 9, 11, 12)))
        self.assertEqual((heats(world, setting, heaters, row), melt(world, setting, heaters, row)),
                         played(world, setting, heaters, row))
        self.assertIs(forever(world, setting, heaters, row), False)
        told = gains(world, setting, heaters)
        loose = tuple((name, 10 ** 9, steps, cools) for name, _, steps, cools in heaters)
        ends = [after_fault(world, setting, loose, (0,) * 6, fault)[0] for fault in faults_of(world)]
        self.assertEqual(told, [max(part) for part in zip(*ends)])
        self.assertEqual(shortest(world, setting, heaters, 60), -(-100 // told[0]))
        self.assertIsNone(least_pause(world, setting, heaters))

    def test_lists_for_tuples(self):
        world, heaters, row = listed(HOUSE), listed(LAMP), listed(LAMPS)
        self.assertEqual(repr(heats(world, [0, 1, 2], heaters, row)), "[(2,), (3,), (4,)]")
        self.assertEqual(repr(melt(world, [0, 1, 2], heaters, row)), "(3, 'c')")


if __name__ == "__main__":
    unittest.main()
