"""The examples of [4] to [12], word for word, and those of README.md."""

import doctest
import pathlib
import unittest

README = pathlib.Path(__file__).resolve().parent.parent / "README.md"

WORDS = r"""
    >>> from tripladder.data import band, is_setting, is_world, opens, sees
    >>> from tripladder.first import cut_by, first_sets, is_good, may_alone, may_open, must_alone
    >>> from tripladder.first import must_open, spoilt
    >>> from tripladder.dials import chain, changed, fewest_changes, first_ones, greatest_setting, how_many, is_chain
    >>> from tripladder.dials import least_setting, waits
    >>> from tripladder.shapes import ring_world, tree_world
    >>> from tripladder.heat import forever, gains, heats, least_pause, melt, never, shortest
    >>> from tripladder.stuck import after, dark, may_dark, must_dark, worst_stuck
    >>> from tripladder.wires import fewest_wires, needed, spoilt_by
    >>> from tripladder.texts import row_text, setting_in, setting_text, world_in, world_text
    >>> from tripladder.desk import answers

    >>> house = ((("a", (((1, 1, 2),),)), ("b", (((1, 2, 3),), ((1, 3, 4),), ((1, 5, 6),))), ("c", (((1, 2, 3),), ((1, 4, 5),), ((1, 6, 7),)))), (("attic", 1, 3, 9, ((("a", 0), ("b", 0), ("c", 2)),)), ("hall", 1, 3, 9, ((("b", 0), ("c", 0)),))))
    >>> sees(house, "attic", 3), opens(house, (0, 1, 2), "b", 2), band(((2, 4, 5), (4, 1, 3)), 3), band(((2, 4, 5), (4, 1, 3)), 1)
    ([[('a', 3), ('b', 3), ('c', 5)]], (3, 4), (4, 5), None)

    >>> may_open(house, (0, 0, 0), "attic", 1, 0), must_open(house, (0, 0, 0), "attic", 1, 0), may_alone(house, (0, 0, 0), "attic", 1, 0), must_alone(house, (0, 0, 0), "attic", 1, 0)
    (['a', 'b', 'c'], ['a'], ['a'], [])
    >>> first_sets(house, (0, 0, 0), "attic", 1, 0), cut_by(house, (0, 0, 0), "attic", 1, 0), spoilt(house, (0, 1, 1)), is_good(house, (0, 1, 2))
    ([('a',), ('a', 'b'), ('a', 'b', 'c'), ('a', 'c')], 2, [('hall', 1, 0, 'c'), ('hall', 2, 0, 'c'), ('hall', 3, 0, 'c')], True)

    >>> least_setting(house), greatest_setting(house), how_many(house), chain(house), waits(house), first_ones(house)
    ((0, 1, 2), (0, 1, 2), 1, None, [('a', 'b'), ('a', 'c'), ('b', 'c')], ())
    >>> tick = (((1, 1, 1),), ((1, 2, 2),), ((1, 3, 3),))
    >>> pair = ((("p", tick), ("q", tick)), (("x", 1, 1, 9, ((("p", 0), ("q", 0)),)), ("y", 1, 1, 9, ((("q", 0), ("p", 0)),))))
    >>> is_chain(pair, (("x", 1, 0, "q", 1), ("y", 1, 0, "p", 2), ("x", 1, 0, "q", 3))), least_setting(pair), first_ones(pair), fewest_changes(house, (0, 2, 2)), changed(house, (0, 2, 2))
    (True, None, ('p',), 1, (0, 1, 2))

    >>> tree = tree_world((("a", tick), ("b", tick), ("c", tick)), (("a", "c", 2, 1, 2, 9), ("b", "c", 3, 1, 2, 9), ("c", "", 1, 1, 2, 9)))
    >>> tree[1][0], tree[1][2], least_setting(tree)
    (('a', 1, 2, 9, ((('a', 0), ('c', 4)),)), ('c', 1, 2, 9, ((('c', 0),),)), (0, 0, 1))
    >>> ring = ring_world(("x", "y"), tick, 1, 1, 9)
    >>> [row[4] for row in ring[1]], least_setting(ring)
    ([((('xa', 0),), (('xb', 0), ('yb', 0))), ((('ya', 0), ('xa', 0)), (('yb', 0),))], (1, 0, 0, 1))

    >>> heaters = (("c", 5, ((1, 1),), 1),)
    >>> lamps = (("attic", 1, 1),) * 5
    >>> heats(house, (0, 1, 2), heaters, lamps), melt(house, (0, 1, 2), heaters, lamps), gains(house, (0, 1, 2), heaters), shortest(house, (0, 1, 2), heaters, 1)
    ([(2,), (3,), (4,)], (3, 'c'), [4], 2)
    >>> never(house, (0, 1, 2), heaters, 3), never(house, (0, 1, 2), heaters, 4), least_pause(house, (0, 1, 2), heaters), forever(house, (0, 1, 2), heaters, (("attic", 1, 1), ("attic", 1, 3)))
    (False, True, 4, True)

    >>> after(house, (0, 1, 2), "attic", 1, ()), after(house, (0, 1, 2), "attic", 1, ("a",)), dark(house, ("b",)), may_dark(house, (0, 1, 2), "attic", 1, ("a",)), worst_stuck(house, (0, 1, 2), "attic", 1)
    ([('a',)], [('b',)], ['attic', 'hall'], ['attic', 'hall'], (2, 'a'))

    >>> fewest_wires(house, (0, 1, 1), 2), fewest_wires(house, (0, 0, 0), 3), spoilt_by(house, (0, 1, 1), (("b", "c", 1),)), needed(house, (0, 1, 2), (("b", "c", 2),))
    ((('b', 'c', 2),), (('a', 'b', 3), ('b', 'c', 3)), [], [])

    >>> world_text(pair), setting_text((0, 2)), row_text((("attic", 1, 1), ("hall", 3, 0)))
    ('p 1:1-1 1:2-2 1:3-3\nq 1:1-1 1:2-2 1:3-3\n@x 1 1 9 p+0>q+0\n@y 1 1 9 q+0>p+0', '0,2', 'attic/1/1 hall/3/0')

    >>> answers("p 1:1-1 1:2-2 1:3-3\nq 1:1-1 1:2-2 1:3-3\n@x 1 1 9 p+0>q+0\n@y 1 1 9 q+0\n\ngood\nspoilt\nfirst x 1 0\nleast\ndials\ngood\nfault x 1\nopen\ndark\nfault x 1\nfault y 1\nopen\ndark\nclose p\nclose q\nstick p\nfirst x 1 0\ndial q 3\nfault z 1\nfault x 2\nclose a")
    ['no', '1', 'p q', 'done', '0,1', 'yes', 'p', 'p', 'x', '-', 'q', 'p q', 'x y', 'done', 'done', 'done', 'q', 'refused NoDial', 'refused NoZone', 'refused NoLevel', 'refused NoSwitch']

    >>> is_world(house), is_setting(house, (0, 1, 2)), must_dark(house, (0, 1, 2), "attic", 1, ("a",))
    (True, True, ['attic', 'hall'])
    >>> world_in(world_text(pair)) == pair, setting_in(pair, "0,2"), world_in("")
    (True, (0, 2), ((), ()))
"""


class Examples(unittest.TestCase):
    def check(self, text, name):
        lesson = doctest.DocTestParser().get_doctest(text, {}, name, name, 0)
        self.assertGreater(len(lesson.examples), 7)
        told = []
        result = doctest.DocTestRunner(verbose=False).run(lesson, out=told.append)
        self.assertEqual((result.failed, result.attempted), (0, len(lesson.examples)), "".join(told))

    def test_each_example_gives_what_the_document_shows(self):
        self.check(WORDS, "DOC.md")

    def test_each_example_gives_what_the_readme_shows(self):
        self.check(README.read_text(encoding="utf-8"), "README.md")


if __name__ == "__main__":
    unittest.main()
