"""The examples of [4] and [5], word for word, and those of README.md."""

import doctest
import pathlib
import unittest

README = pathlib.Path(__file__).resolve().parent.parent / "README.md"

WORDS = r"""
    >>> from tripladder.data import band, is_setting, is_world, opens, sees
    >>> from tripladder.first import cut_by, first_sets, is_good, may_alone, may_open, must_alone
    >>> from tripladder.first import must_open, spoilt

    >>> house = ((("a", (((1, 1, 2),),)), ("b", (((1, 2, 3),), ((1, 3, 4),), ((1, 5, 6),))), ("c", (((1, 2, 3),), ((1, 4, 5),), ((1, 6, 7),)))), (("attic", 1, 3, 9, ((("a", 0), ("b", 0), ("c", 2)),)), ("hall", 1, 3, 9, ((("b", 0), ("c", 0)),))))
    >>> sees(house, "attic", 3), opens(house, (0, 1, 2), "b", 2), band(((2, 4, 5), (4, 1, 3)), 3), band(((2, 4, 5), (4, 1, 3)), 1)
    ([[('a', 3), ('b', 3), ('c', 5)]], (3, 4), (4, 5), None)

    >>> may_open(house, (0, 0, 0), "attic", 1, 0), must_open(house, (0, 0, 0), "attic", 1, 0), may_alone(house, (0, 0, 0), "attic", 1, 0), must_alone(house, (0, 0, 0), "attic", 1, 0)
    (['a', 'b', 'c'], ['a'], ['a'], [])
    >>> first_sets(house, (0, 0, 0), "attic", 1, 0), cut_by(house, (0, 0, 0), "attic", 1, 0), spoilt(house, (0, 1, 1)), is_good(house, (0, 1, 2))
    ([('a',), ('a', 'b'), ('a', 'b', 'c'), ('a', 'c')], 2, [('hall', 1, 0, 'c'), ('hall', 2, 0, 'c'), ('hall', 3, 0, 'c')], True)

    >>> is_world(house), is_setting(house, (0, 1, 2))
    (True, True)
"""


class Examples(unittest.TestCase):
    def check(self, text, name):
        lesson = doctest.DocTestParser().get_doctest(text, {}, name, name, 0)
        self.assertGreater(len(lesson.examples), 7)
        told = []
        result = doctest.DocTestRunner(verbose=False).run(lesson, out=told.append)
        self.assertEqual((result.failed, result.attempted), (0, len(lesson.examples)), "".join(told))

    def test_each_example_gives_what_the_document_shows(self):
        self.check(WORDS, "DOC.md")

    def test_each_example_gives_what_the_readme_shows(self):
        self.check(README.read_text(encoding="utf-8"), "README.md")


if __name__ == "__main__":
    unittest.main()
