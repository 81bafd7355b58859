"""[6]: the chains of steps by which no setting is good, and who waits for whom."""

import itertools
import random
import unittest

from sample import (HOUSE, PAIR, TICK, YARD, ladder_world, large_world, listed, one_way, places, random_world,
                    tick_at, tupled, with_part)
from tripladder.dials import chain, first_ones, how_many, is_chain, waits

OTHERS = [None, True, False, 0, 1, -1, "", "x", "p", (), [], (0,), ("x",), (("x", 1, 0, "q", 1),), [[]], ((),)]
THREE = (("x", 1, 0, "q", 1), ("y", 1, 0, "p", 2), ("x", 1, 0, "q", 3))

# One zone with a nearest whose dial 1 never opens, and whose dial 0 is too late at level 2 alone.
LATE = (
    (("n", (((2, 8, 9),), ())), ("o", TICK)),
    (("z", 2, 3, 8, ((("n", 0), ("o", 0)),)),))


def holds(world, steps, at):
    """Whether the STEP at this place holds by the words of the document, whatever comes behind it."""
    zone, level, way, switch, dial = steps[at]
    rows = [row for row in world[1] if row[0] == zone]
    if not rows or not rows[0][1] <= level <= rows[0][2] or not 0 <= way < len(rows[0][4]):
        return False
    pairs, curves = dict(rows[0][4][way]), dict(world[0])
    nearest = rows[0][4][way][0][0]
    if switch not in pairs:
        return False
    leans = [step[4] for step in steps[:at] if step[3] == nearest][-1:] or [0]
    own = tick_at(curves[nearest][leans[0]], level + pairs[nearest])
    if switch == nearest:
        return at == len(steps) - 1 and dial == leans[0] and (own is None or own[1] > rows[0][3])
    if not 1 <= dial <= len(curves[switch]) or (dial == len(curves[switch])) != (at == len(steps) - 1):
        return False
    ticks = tick_at(curves[switch][dial - 1], level + pairs[switch])
    return own is None or (ticks is not None and ticks[0] <= own[1])


def is_chain_by_words(world, steps):
    """Whether the tuple of well-formed STEPs is a CHAIN."""
    return bool(steps) and all(holds(world, steps, at) for at in range(len(steps)))


def all_steps(world):
    """All STEPs that could be named in a world, and a few that are just beyond."""
    found = []
    for zone, low, high, _, ways in world[1]:
        for level, way in itertools.product(range(low - 1, high + 2), range(-1, len(ways) + 1)):
            for switch, dials in world[0]:
                found.extend((zone, level, way, switch, dial) for dial in range(-1, len(dials) + 2))
    return found


class IsChain(unittest.TestCase):
    def yes(self, world, *steps):
        self.assertIs(is_chain(world, steps), True, steps)

    def no(self, world, *steps):
        self.assertIs(is_chain(world, steps), False, steps)

    def test_the_chain_of_the_document(self):
        self.yes(PAIR, *THREE)
        self.assertIs(is_chain(listed(PAIR), THREE), True)

    def test_a_step_left_out(self):
        for many in range(3):
            for some in itertools.combinations(THREE, many):
                self.no(PAIR, *some)

    def test_steps_in_another_order(self):
        for steps in itertools.permutations(THREE):
            self.assertIs(is_chain(PAIR, steps), steps == THREE)

    def test_a_step_doubled(self):
        first, second, last = THREE
        self.yes(PAIR, first, first, second, last)
        self.yes(PAIR, first, second, second, last)
        self.no(PAIR, first, second, last, last)
        self.no(PAIR, *THREE, first)
        self.no(PAIR, *THREE, *THREE)

    def test_a_step_bent(self):
        told = []
        for at, part in itertools.product(range(3), range(5)):
            for value in ("x", "y", "z", "p", "q", "", -1, 0, 1, 2, 3, 4, 5):
                steps = with_part(THREE, (at, part), value)
                if steps != THREE and is_chain(PAIR, steps):
                    told.append((at, part, value))
        self.assertEqual(told, [])
        self.yes(PAIR, THREE[0], ("y", 1, 0, "p", 1), ("x", 1, 0, "q", 2), ("y", 1, 0, "p", 3))

    def test_what_a_step_leans_on_is_the_last_one_ahead(self):
        first, second, last = THREE
        self.no(PAIR, first, second, ("y", 1, 0, "p", 1), last)
        self.yes(PAIR, first, second, ("y", 1, 0, "p", 1), second, last)
        self.no(PAIR, second, first, last)

    def test_dials_that_the_switch_has_not(self):
        self.no(PAIR, ("x", 1, 0, "q", 0), *THREE)
        self.no(PAIR, ("x", 1, 0, "q", 3))
        self.no(PAIR, *THREE[:2], ("x", 1, 0, "q", 4))
        self.no(PAIR, *THREE[:2], ("x", 1, 0, "q", 2))

    def test_the_nearest_never_opens(self):
        world = one_way(None, (1, 1))[0]
        self.yes(world, ("z", 1, 0, "a", 0))
        self.yes(world, ("z", 1, 0, "b", 1))
        for dial in (-1, 1, 2):
            self.no(world, ("z", 1, 0, "a", dial))
        for dial in (-1, 0, 2):
            self.no(world, ("z", 1, 0, "b", dial))
        self.no(world, ("z", 1, 0, "b", 1), ("z", 1, 0, "a", 0))
        self.no(world, ("z", 1, 0, "a", 0), ("z", 1, 0, "b", 1))

    def test_where_the_nearest_never_opens_each_dial_is_forced(self):
        world = (("n", ((),)), ("o", TICK)), (("z", 1, 1, 9, ((("n", 0), ("o", 0)),)),)
        self.yes(world, ("z", 1, 0, "o", 3))
        self.yes(world, ("z", 1, 0, "o", 1), ("z", 1, 0, "n", 0))
        self.yes(world, ("z", 1, 0, "o", 2), ("z", 1, 0, "o", 1), ("z", 1, 0, "o", 2), ("z", 1, 0, "o", 3))
        self.no(world, ("z", 1, 0, "o", 2))

    def test_the_nearest_is_too_late(self):
        self.yes(LATE, ("z", 2, 0, "n", 0))
        self.yes(LATE, ("z", 3, 0, "n", 0))
        self.no(LATE, ("z", 2, 0, "n", 1))
        world = LATE[0], (("z", 2, 3, 9, LATE[1][0][4]),)
        self.no(world, ("z", 2, 0, "n", 0))
        self.yes(world, ("z", 2, 0, "o", 3))
        self.yes(world, ("z", 2, 0, "o", 1), ("z", 2, 0, "o", 3))

    def test_a_nearest_that_was_raised_too_far(self):
        world = PAIR[0], (("x", 1, 1, 2, PAIR[1][0][4]), ("y", 1, 1, 1, PAIR[1][1][4]))
        self.yes(world, THREE[0], ("y", 1, 0, "q", 1))
        self.no(world, ("y", 1, 0, "q", 1))
        self.no(world, THREE[0], ("y", 1, 0, "q", 0))
        self.no(world, ("y", 1, 0, "q", 0))
        self.no(world, THREE[0], ("x", 1, 0, "p", 0))
        self.yes(world, THREE[0], ("y", 1, 0, "p", 2), ("x", 1, 0, "p", 2))
        self.yes(world, THREE[0], ("y", 1, 0, "p", 1), THREE[0], ("y", 1, 0, "q", 1))

    def test_other_zones_levels_ways_and_switches(self):
        world = large_world(limit=4)
        self.no(world, ("r", 0, 1, "e", 0))
        self.no(world, ("r", 13, 1, "e", 0))
        rounds = large_world(("abcdef", "bacdef"), high=1)
        self.yes(rounds, ("r", 1, 0, "b", 1), ("s", 1, 0, "a", 2), ("r", 1, 0, "b", 3), ("s", 1, 0, "a", 4))
        for bad in (("t", 1, 0, "b", 1), ("r", 2, 0, "b", 1), ("r", 1, 1, "b", 1), ("r", 1, 3, "b", 1),
                    ("r", 1, -1, "b", 1), ("r", 1, 0, "e", 1), ("r", 1, 0, "g", 1), ("r", 1, 0, "r", 1)):
            self.no(rounds, bad, ("r", 1, 0, "b", 1), ("s", 1, 0, "a", 2), ("r", 1, 0, "b", 3), ("s", 1, 0, "a", 4))

    def test_things_of_every_other_kind(self):
        for world in (PAIR, HOUSE, YARD, ((), ()), LATE):
            for thing in [*OTHERS, listed(THREE), list(THREE), [*map(list, THREE)], "chain", 10 ** 20, ((((()),),),)]:
                self.assertIs(is_chain(world, thing), False, thing)

    def test_each_part_of_every_other_kind(self):
        for path in [path for path in places(THREE) if path]:
            for other in [*OTHERS, 10 ** 20]:
                thing = with_part(THREE, path, other)
                if repr(thing) != repr(THREE) and not (len(path) == 1 and other == THREE[path[0]]):
                    self.assertIs(is_chain(PAIR, thing), False, thing)

    def test_a_list_is_no_tuple_and_a_truth_no_number(self):
        for at in range(3):
            self.assertIs(is_chain(PAIR, with_part(THREE, (at,), list(THREE[at]))), False)
            self.assertIs(is_chain(PAIR, with_part(THREE, (at,), THREE[at] + (0,))), False)
            self.assertIs(is_chain(PAIR, with_part(THREE, (at,), THREE[at][:-1])), False)
            self.assertIs(is_chain(PAIR, with_part(THREE, (at, 1), True)), False)
            self.assertIs(is_chain(PAIR, with_part(THREE, (at, 2), False)), False)
        self.assertIs(is_chain(PAIR, with_part(THREE, (0, 4), True)), False)
        self.assertIs(is_chain(one_way(None)[0], (("z", 1, 0, "a", False),)), False)

    def test_all_short_rows_of_steps_as_by_the_words(self):
        seen = [0, 0]
        for world in (PAIR, LATE, one_way(None, (1, 2))[0], one_way((1, 1), (1, 1))[0]):
            for many in (1, 2):
                for steps in itertools.product(all_steps(world), repeat=many):
                    told = is_chain_by_words(world, steps)
                    self.assertIs(is_chain(world, steps), told, steps)
                    seen[told] += 1
        self.assertGreater(min(seen), 10)

    def test_bent_chains_of_random_worlds_as_by_the_words(self):
        source, seen = random.Random(6), [0, 0]
        for seed in range(250):
            world = ladder_world(seed)[0]
            steps, known = list(chain(world) or ()), all_steps(world)
            for _ in range(30):
                rows = list(steps)
                at = source.randrange(len(rows) + 1)
                if source.random() < 0.5:
                    rows.insert(at, source.choice(rows * 9 + known))
                if rows and source.random() < 0.5:
                    del rows[source.randrange(len(rows))]
                if rows and source.random() < 0.3:
                    at = source.randrange(len(rows))
                    rows[at] = (*rows[at][:4], rows[at][4] + source.choice([-1, 1]))
                told = is_chain_by_words(world, rows)
                self.assertIs(is_chain(world, tuple(rows)), told, (world, rows))
                seen[told] += 1
        self.assertGreater(min(seen), 500)

    def test_a_world_with_a_good_setting_has_no_chain(self):
        source = random.Random(7)
        for seed in range(120):
            world = ladder_world(seed)[0]
            if how_many(world):
                known = [step for step in all_steps(world) if not is_chain(world, (step,))]
                self.assertEqual(known, all_steps(world))
                # Rows of steps that hold, drawn out as far as they go.
                for _ in range(5):
                    rows = []
                    for step in source.sample(known, min(len(known), 150)):
                        if holds(world, [*rows, step, step], len(rows)):
                            rows.append(step)
                        self.assertIs(is_chain(world, (*rows, step)), False)


class Chain(unittest.TestCase):
    def test_none_where_a_setting_is_good(self):
        for world in (HOUSE, ((), ()), (HOUSE[0], ()), large_world(), one_way((1, 2), (3, 4))[0]):
            self.assertIsNone(chain(world))

    def test_a_chain_where_none_is_good(self):
        for world in (PAIR, YARD, LATE, large_world(limit=33), one_way(None)[0], one_way((1, 5), limit=4)[0],
                      one_way((1, 1), (1, 1))[0], large_world(("abcdef", "bcdeaf", "cdefab", "defabc", "fabcde"))):
            self.assertIs(is_chain(world, chain(world)), True, world)
            self.assertEqual(repr(chain(listed(world))), repr(chain(world)))

    def test_random_worlds(self):
        seen = {0: 0, 1: 0, 2: 0, 3: 0}
        for seed in range(600):
            for world in (random_world(seed)[0], ladder_world(seed)[0]):
                steps = chain(world)
                self.assertIs(steps is None, how_many(world) > 0, world)
                if steps is not None:
                    self.assertIs(is_chain(world, steps), True, (world, steps))
                    self.assertTrue(is_chain_by_words(world, steps))
                    self.assertEqual(repr(steps), repr(tupled(steps)))
                seen[min(len(steps or ()), 3)] += 1
        self.assertGreater(min(seen.values()), 20)


def waits_by_words(world):
    """The pairs of waits by trying all dials of both."""
    curves, found = dict(world[0]), set()
    for _, low, high, _, ways in world[1]:
        for way, level in itertools.product(ways, range(low, high + 1)):
            (nearest, more), *rest = way
            for other, beyond in rest:
                for own, its in itertools.product(curves[nearest], curves[other]):
                    ours, theirs = tick_at(own, level + more), tick_at(its, level + beyond)
                    if ours and theirs and theirs[0] <= ours[1]:
                        found.add((nearest, other))
    return sorted(found)


def rounds_of(names, pairs):
    """The sets of the switches of all rounds without a switch twice."""
    found = []
    for many in range(1, len(names) + 1):
        for row in itertools.permutations(names, many):
            if row[0] == min(row) and all(pair in pairs for pair in zip(row, (*row[1:], row[0]))):
                found.append(set(row))
    return found


def first_ones_by_words(world):
    """The fewest and least switches that meet each round."""
    names = [name for name, _ in world[0]]
    rounds = rounds_of(names, waits_by_words(world))
    for many in range(len(names) + 1):
        for some in itertools.combinations(names, many):
            if all(part & set(some) for part in rounds):
                return some


class Waits(unittest.TestCase):
    def test_the_document(self):
        self.assertEqual((waits(HOUSE), first_ones(HOUSE)), ([("a", "b"), ("a", "c"), ("b", "c")], ()))
        self.assertEqual((waits(PAIR), first_ones(PAIR)), ([("p", "q"), ("q", "p")], ("p",)))

    def test_worlds_without_switches_or_zones(self):
        for world in (((), ()), (HOUSE[0], ()), one_way(None)[0], one_way((1, 2))[0]):
            self.assertEqual((waits(world), first_ones(world)), ([], ()))

    def test_some_dials_of_both_are_enough(self):
        def told(nearest, other):
            return waits(((("p", nearest), ("q", other)), (("z", 1, 1, 1, ((("p", 0), ("q", 0)),)),)))
        early, late = ((1, 1, 2),), ((1, 5, 5),)
        self.assertEqual(told((early,), (late,)), [])
        self.assertEqual(told((early, late), (late,)), [("p", "q")])
        self.assertEqual(told((early, late, ()), (late, ())), [("p", "q")])
        self.assertEqual(told((early,), (((1, 2, 9),), ())), [("p", "q")])
        self.assertEqual(told((early,), (((1, 3, 9),), ())), [])
        self.assertEqual(told(((),), (early,)), [])
        self.assertEqual(told((late,), ((),)), [])

    def test_only_faults_of_the_zone_and_what_each_sees(self):
        quick = (((1, 9, 9), (4, 1, 1)),)
        def told(low, high, more):
            world = (("p", (((1, 5, 5),),)), ("q", quick)), (("z", low, high, 9, ((("p", 0), ("q", more)),)),)
            return waits(world)
        self.assertEqual([told(1, 3, 0), told(1, 4, 0), told(4, 4, 0), told(4, 4, -1), told(1, 2, 2), told(1, 2, 1)],
                         [[], [("p", "q")], [("p", "q")], [], [("p", "q")], []])

    def test_only_the_nearest_waits_and_only_on_one_way(self):
        curve = (((1, 1, 1),),)
        switches = tuple((name, curve) for name in "abcd")
        world = switches, (("z", 1, 1, 9, ((("c", 0), ("a", 0), ("b", 0)), (("d", 0),))),)
        self.assertEqual(waits(world), [("c", "a"), ("c", "b")])

    def test_pairs_ascend_without_duplicates(self):
        curve = (((1, 1, 1),),)
        switches = tuple((name, curve) for name in "abc")
        zones = tuple((zone, 1, 3, 9, (tuple((name, 0) for name in order),))
                      for zone, order in zip("tuvw", ("cb", "abc", "acb", "ba")))
        self.assertEqual(waits((switches, zones)), [("a", "b"), ("a", "c"), ("b", "a"), ("c", "b")])
        self.assertEqual(first_ones((switches, zones)), ("a",))

    def test_rounds(self):
        def told(*orders):
            switches = tuple((name, (((1, 1, 1),),)) for name in "abcdef")
            ways = [tuple((name, 0) for name in order) for order in orders]
            return first_ones((switches, tuple((zone, 1, 1, 9, (way,)) for zone, way in zip("rstuvw", ways))))
        self.assertEqual(told("abcd", "bcd", "cd"), ())
        self.assertEqual(told("ab", "bc", "ca"), ("a",))
        self.assertEqual(told("ab", "bc", "cd", "de", "ef", "fa"), ("a",))
        self.assertEqual(told("ab", "ba", "cd", "dc", "ef", "fe"), ("a", "c", "e"))
        self.assertEqual(told("ad", "bd", "cd", "dabc"), ("d",))
        self.assertEqual(told("fe", "ef", "ab", "bc"), ("e",))
        self.assertEqual(told("abc", "bca", "cab"), ("a", "b"))
        self.assertEqual(told("abcd", "bcda", "cdab", "dabc", "ef", "fe"), ("a", "b", "c", "e"))

    def test_random_worlds_as_by_all_dials_and_all_rounds(self):
        sizes = set()
        for seed in range(400):
            for world in (random_world(seed)[0], ladder_world(seed)[0]):
                self.assertEqual(waits(world), waits_by_words(world), world)
                self.assertEqual(first_ones(world), first_ones_by_words(world), world)
                sizes.add(len(first_ones(world)))
        self.assertEqual(sizes, {0, 1, 2})

    def test_the_largest_worlds(self):
        for world in (large_world(), large_world(("abcdef", "bcdeaf", "cdefab", "defabc", "efabcd", "fabcde"))):
            self.assertEqual(waits(world), waits_by_words(world))
            self.assertEqual(first_ones(world), first_ones_by_words(world))

    def test_a_world_of_lists(self):
        self.assertEqual((repr(waits(listed(PAIR))), repr(first_ones(listed(PAIR)))),
                         ("[('p', 'q'), ('q', 'p')]", "('p',)"))


if __name__ == "__main__":
    unittest.main()
