"""[7]: the worlds of trees and of rings."""

import random
import unittest

from sample import TICK, ladder, listed
from tripladder.data import is_world, sees
from tripladder.dials import least_setting
from tripladder.shapes import ring_world, tree_world

ABC = tuple((name, TICK) for name in "abc")
TREE = (("a", "c", 2, 1, 2, 9), ("b", "c", 3, 1, 2, 9), ("c", "", 1, 1, 2, 9))


def ways_of(world):
    """The ways of each zone."""
    return {row[0]: row[4] for row in world[1]}


def is_fed_by(wires, name, upper):
    """Whether a wire is at or below another one."""
    feeds = {wire[0]: wire[1] for wire in wires}
    while name not in ("", upper):
        name = feeds[name]
    return name == upper


def more_by_words(wires, name, upper):
    """The loads at or below the upper wire that are not at or below the one with this name."""
    return sum(wire[2] for wire in wires
               if is_fed_by(wires, wire[0], upper) and not is_fed_by(wires, wire[0], name))


def random_tree(seed):
    """Switches and wires of a tree, or of several side by side, in any order of the names."""
    source = random.Random(seed)
    names = source.sample(["a", "b", "cc", "d", "m", "zz"], source.randint(1, 6))
    feeds = {name: source.choice(["", *names[:at], *names[:at]]) for at, name in enumerate(names)}
    wires = []
    for name in sorted(names):
        low = source.randint(1, 5)
        wires.append((name, feeds[name], source.randint(0, 9), low, low + source.randint(0, 3), source.randint(1, 60)))
    return tuple((name, ladder(source)) for name in sorted(names)), tuple(wires)


class Trees(unittest.TestCase):
    def test_the_tree_of_the_document(self):
        world = tree_world(ABC, TREE)
        self.assertEqual(world, (ABC, (
            ("a", 1, 2, 9, ((("a", 0), ("c", 4)),)),
            ("b", 1, 2, 9, ((("b", 0), ("c", 3)),)),
            ("c", 1, 2, 9, ((("c", 0),),)))))
        self.assertEqual(least_setting(world), (0, 0, 1))
        self.assertEqual(sees(world, "a", 2), [[("a", 2), ("c", 6)]])

    def test_no_wire_and_one_wire(self):
        self.assertEqual(tree_world((), ()), ((), ()))
        self.assertEqual(tree_world(ABC[:1], (("a", "", 7, 2, 5, 3),)),
                         (ABC[:1], (("a", 2, 5, 3, ((("a", 0),),)),)))

    def test_several_wires_at_the_supply(self):
        wires = ("a", "", 5, 1, 1, 9), ("b", "a", 6, 1, 1, 9), ("c", "", 7, 1, 1, 9)
        self.assertEqual(ways_of(tree_world(ABC, wires)), {
            "a": ((("a", 0),),), "b": ((("b", 0), ("a", 5)),), "c": ((("c", 0),),)})

    def test_a_row_of_six_whose_loads_add_up(self):
        switches = tuple((name, TICK) for name in "abcdef")
        wires = tuple((name, above, 10 ** at, 1, 1, 9) for at, (name, above) in enumerate(zip("abcdef", ["", *"abcde"])))
        ways = ways_of(tree_world(switches, wires))
        self.assertEqual(ways["f"], ((("f", 0), ("e", 10000), ("d", 11000), ("c", 11100), ("b", 11110), ("a", 11111)),))
        self.assertEqual(ways["c"], ((("c", 0), ("b", 10), ("a", 11)),))
        turned = tuple((name, above, 1, 1, 1, 9) for name, above in zip("abcdef", [*"bcdef", ""]))
        self.assertEqual(ways_of(tree_world(switches, turned))["b"], ((("b", 0), ("c", 1), ("d", 2), ("e", 3), ("f", 4)),))

    def test_loads_of_side_branches_count_and_those_below_the_zone_do_not(self):
        switches = tuple((name, TICK) for name in "abcdef")
        wires = (("a", "c", 1, 1, 1, 9), ("b", "c", 2, 1, 1, 9), ("c", "f", 4, 1, 1, 9), ("d", "f", 8, 1, 1, 9),
                 ("e", "d", 16, 1, 1, 9), ("f", "", 32, 1, 1, 9))
        ways = ways_of(tree_world(switches, wires))
        self.assertEqual(ways["a"], ((("a", 0), ("c", 6), ("f", 62)),))
        self.assertEqual(ways["c"], ((("c", 0), ("f", 56)),))
        self.assertEqual(ways["e"], ((("e", 0), ("d", 8), ("f", 47)),))
        self.assertEqual(ways["f"], ((("f", 0),),))

    def test_random_trees_as_by_the_words(self):
        for seed in range(200):
            switches, wires = random_tree(seed)
            world = tree_world(switches, wires)
            self.assertIs(is_world(world), True)
            self.assertEqual(world[0], switches)
            for row, wire in zip(world[1], wires):
                self.assertEqual((row[0], *row[1:4]), (wire[0], *wire[3:]))
                names = [name for name, _ in row[4][0]]
                feeds = {one[0]: one[1] for one in wires}
                self.assertEqual([*names[1:], ""], [feeds[name] for name in names])
                self.assertEqual(row[4], (tuple((name, more_by_words(wires, wire[0], name)) for name in names),))
            self.assertEqual(len(world[1]), len(wires))

    def test_lists_give_the_same_world(self):
        for seed in range(20):
            switches, wires = random_tree(seed)
            found = tree_world(listed(switches), listed(wires))
            self.assertEqual(repr(found), repr(tree_world(switches, wires)))
            self.assertIs(is_world(found), True)


class Rings(unittest.TestCase):
    def test_the_ring_of_the_document(self):
        ring = ring_world(("x", "y"), TICK, 1, 1, 9)
        self.assertEqual(ring, (
            (("xa", TICK), ("xb", TICK), ("ya", TICK), ("yb", TICK)),
            (("x", 1, 1, 9, ((("xa", 0),), (("xb", 0), ("yb", 0)))),
             ("y", 1, 1, 9, ((("ya", 0), ("xa", 0)), (("yb", 0),))))))
        self.assertEqual(least_setting(ring), (1, 0, 0, 1))

    def test_one_wire_and_none(self):
        self.assertEqual(ring_world(("w",), TICK, 2, 4, 7), (
            (("wa", TICK), ("wb", TICK)), (("w", 2, 4, 7, ((("wa", 0),), (("wb", 0),))),)))
        self.assertEqual(ring_world((), TICK, 1, 1, 9), ((), ()))

    def test_three_wires_that_do_not_ascend(self):
        ring = ring_world(("m", "z", "b"), TICK, 1, 2, 9)
        self.assertIs(is_world(ring), True)
        self.assertEqual([name for name, _ in ring[0]], ["ba", "bb", "ma", "mb", "za", "zb"])
        self.assertEqual([row[:4] for row in ring[1]], [("b", 1, 2, 9), ("m", 1, 2, 9), ("z", 1, 2, 9)])
        self.assertEqual(ways_of(ring), {
            "m": ((("ma", 0),), (("mb", 0), ("zb", 0), ("bb", 0))),
            "z": ((("za", 0), ("ma", 0)), (("zb", 0), ("bb", 0))),
            "b": ((("ba", 0), ("za", 0), ("ma", 0)), (("bb", 0),))})
        self.assertEqual(least_setting(ring), (0, 2, 2, 0, 1, 1))

    def test_names_that_begin_alike(self):
        for names in (("x", "xa", "xb"), ("xb", "x", "xa"), ("xab", "xa", "x"), ("abcdefg", "abcdef", "a")):
            ring = ring_world(names, TICK, 1, 1, 9)
            self.assertIs(is_world(ring), True, names)
            self.assertEqual([name for name, _ in ring[0]], sorted(name + side for name in names for side in "ab"))
            self.assertEqual([row[0] for row in ring[1]], sorted(names))
            last = tuple((name + "a", 0) for name in reversed(names))
            self.assertEqual(ways_of(ring)[names[2]], (last, ((names[2] + "b", 0),)))

    def test_too_few_dials(self):
        self.assertIsNone(least_setting(ring_world(("x", "y"), TICK[:1], 1, 1, 9)))
        self.assertIsNone(least_setting(ring_world(("x", "y", "z"), TICK[:2], 1, 1, 9)))

    def test_the_limit_and_the_levels_are_those_of_each_zone(self):
        dials = (((2, 1, 1),), ((2, 2, 2),), ((2, 3, 3),))
        self.assertEqual(least_setting(ring_world(("x", "y"), dials, 2, 3, 2)), (1, 0, 0, 1))
        self.assertIsNone(least_setting(ring_world(("x", "y"), dials, 2, 3, 1)))
        self.assertIsNone(least_setting(ring_world(("x", "y"), dials, 1, 3, 2)))
        self.assertEqual([row[1:4] for row in ring_world(("y", "x"), dials, 2, 12, 60)[1]], [(2, 12, 60)] * 2)

    def test_lists_give_the_same_world(self):
        dials = (((1, 2, 3), (4, 1, 1)), ((1, 5, 6),), ())
        for names in (["z"], ["y", "x"], ["c", "b", "a"]):
            found = ring_world(names, listed(dials), 1, 3, 9)
            self.assertEqual(repr(found), repr(ring_world(tuple(names), dials, 1, 3, 9)))
            self.assertIs(is_world(found), True)


if __name__ == "__main__":
    unittest.main()
