"""[11]: texts of worlds, settings and rows, and what they tell when they are read."""

import itertools
import random
import re
import string
import unittest

from sample import HOUSE, PAIR, YARD, ladder_world, large_world, listed, random_world, wide_world
from tripladder.data import is_setting, is_world
from tripladder.errors import BadLine, BadText
from tripladder.texts import row_text, setting_in, setting_text, world_in, world_text

NUMBER = "(?:0|[1-9][0-9]{0,2})"
STEP = f"{NUMBER}:{NUMBER}-{NUMBER}"
CURVE = f"(?:-|{STEP}(?:;{STEP})*)"
LINK = f"[a-z]+(?:[+]{NUMBER}|-(?!0){NUMBER})"
SWITCH_LINE = re.compile(f"[a-z]+(?: {CURVE})+")
ZONE_LINE = re.compile(f"@[a-z]+(?: {NUMBER}){{3}}(?: {LINK}(?:>{LINK})*)+")
PAIR_TEXT = "p 1:1-1 1:2-2 1:3-3\nq 1:1-1 1:2-2 1:3-3\n@x 1 1 9 p+0>q+0\n@y 1 1 9 q+0>p+0"
YARD_TEXT = ("far - -\nnear 2:5-7;4:2-3 3:6-9 -\nslow 1:4-8 6:8-9\n"
             "@barn 2 5 7 near+0>far+3 slow-2\n@well 1 1 4 far+0")
SIGNS = " \t\n\r-+:;>@,/.09a{Z\u0663\u00b2\u3000\u2028\x0b\x00_"


def row_by_form(line):
    """The switch or the zone that is so written, as a value that may be wrong otherwise; None for no form."""
    words = line.split(" ")
    if SWITCH_LINE.fullmatch(line):
        return words[0], tuple(tuple(tuple(int(part) for part in re.findall("[0-9]+", step))
                                     for step in word.split(";") if step != "-") for word in words[1:])
    if ZONE_LINE.fullmatch(line):
        ways = tuple(tuple((re.match("[a-z]+", link)[0], int(re.search("[+-].*", link)[0])) for link in word.split(">"))
                     for word in words[4:])
        return (words[0][1:], *[int(word) for word in words[1:4]], ways)
    return None


def read_by_form(text):
    """The world of a text, or the number of its first wrong line: the lines up to each must tell a world."""
    switches, zones = (), ()
    for at, line in enumerate(text.split("\n") if text else []):
        row = row_by_form(line)
        if row is not None and line[0] == "@":
            zones = (*zones, row)
        elif not zones:
            switches = (*switches, row)
        else:
            return at
        if not is_world((switches, zones)):
            return at
    return switches, zones


def told(text):
    """What world_in tells of a text: a world, or the number of the wrong line."""
    try:
        return world_in(text)
    except BadLine as error:
        return error.number


def spoilt_texts(text):
    """Texts with one sign left out, doubled, changed, put in, or swapped with the one behind it."""
    for at in range(len(text)):
        yield text[:at] + text[at + 1:]
        yield text[:at] + text[at] + text[at:]
        yield text[:at] + text[at:at + 2][::-1] + text[at + 2:]
        for sign in SIGNS:
            yield text[:at] + sign + text[at + 1:]
    for at in range(len(text) + 1):
        for sign in SIGNS:
            yield text[:at] + sign + text[at:]


class WorldText(unittest.TestCase):
    def test_the_worlds_of_the_samples(self):
        self.assertEqual(world_text(PAIR), PAIR_TEXT)
        self.assertEqual(world_text(YARD), YARD_TEXT)
        self.assertEqual(world_text(HOUSE), "a 1:1-2\nb 1:2-3 1:3-4 1:5-6\nc 1:2-3 1:4-5 1:6-7\n"
                                            "@attic 1 3 9 a+0>b+0>c+2\n@hall 1 3 9 b+0>c+0")

    def test_worlds_without_zones_or_switches(self):
        self.assertEqual(world_text(((), ())), "")
        self.assertEqual(world_text((YARD[0][:1], ())), "far - -")

    def test_what_is_below_nothing_has_a_minus(self):
        switches = ("a", ((),)), ("b", ((),))
        world = switches, (("z", 1, 1, 1, ((("a", -20),), (("b", 99),))),)
        self.assertEqual(world_text(world), "a -\nb -\n@z 1 1 1 a-20 b+99")


class WorldIn(unittest.TestCase):
    def test_the_texts_of_the_samples(self):
        for world in (PAIR, YARD, HOUSE, large_world(), ((), ()), (YARD[0], ())):
            self.assertEqual(world_in(world_text(world)), world)
            self.assertIs(is_world(world_in(world_text(world))), True)

    def test_random_worlds_are_read_back(self):
        for seed, make in itertools.product(range(150), (random_world, ladder_world, wide_world)):
            world, _ = make(seed)
            text = world_text(world)
            self.assertEqual((read_by_form(text), world_in(text)), (world, world))

    def test_the_text_without_any_character(self):
        self.assertEqual(world_in(""), ((), ()))

    def test_numbers_to_999(self):
        text = "abcdefgh 999:999-999\n@zzzzzzzz 999 999 999 abcdefgh+999"
        world = (("abcdefgh", (((999, 999, 999),),)),), (("zzzzzzzz", 999, 999, 999, ((("abcdefgh", 999),),)),)
        self.assertEqual((world_in(text), world_text(world)), (world, text))
        text = text[:-4] + "-999"
        self.assertEqual(world_in(text)[1][0][4], ((("abcdefgh", -999),),))

    def test_worlds_beyond_the_bounds_are_worlds(self):
        lines = [f"{name} " + " ".join(["1:9-9"] * 9) for name in string.ascii_lowercase]
        lines += [f"@{name} 1 20 900 a+0>" + ">".join(f"{x}+1" for x in "bcdefgh") for name in string.ascii_lowercase]
        world = world_in("\n".join(lines))
        self.assertIs(is_world(world), True)
        self.assertEqual((len(world[0]), len(world[1]), world_text(world)), (26, 26, "\n".join(lines)))

    def test_an_empty_line_at_each_place(self):
        lines = YARD_TEXT.split("\n")
        for at in range(len(lines) + 1):
            self.assertEqual(told("\n".join(lines[:at] + [""] + lines[at:])), at)
        self.assertEqual([told("\n"), told("\n\n"), told(" "), told("a -\n")], [0, 0, 0, 1])

    def wrong(self, *lines):
        """Check that each of the lines is wrong where the last line but one of a good text stood."""
        for line in lines:
            self.assertEqual(told(f"a 1:2-3\nb -\n{line}\nz -"), 2, line)

    def test_numbers(self):
        self.wrong("c 01:2-3", "c 1:02-3", "c 1:2-03", "c 00:2-3", "c 1000:2-3", "c 1:1000-1000", "c 1:2-1000", "c 1:2-",
                   "c 1:-3", "c :2-3", "c 1:2", "c 1-2", "c 1", "c 1:2:3", "c 1:2-3-4", "c 1:2-3:4", "c -1:2-3",
                   "c 1:-2-3", "c 1:2--3", "c +1:2-3", "c 1:2-+3", "c 1_0:2-3", "c 1:2-\u0663", "c 1:2-\u00b3", "c 1:2-x",
                   "c 1:2-3.", "c 1:2-3\t", "c 1:2- 3", "c 1 :2-3", "c 1e1:2-3", "c 0x1:2-3")

    def test_curves(self):
        self.wrong("c", "c ", "c 1:2-3;", "c ;1:2-3", "c 1:2-3;;2:2-3", "c -;1:2-3", "c 1:2-3;-", "c --", "c - -1",
                   "c 1:2-3,2:2-3", "c 1:2-3;1:2-3", "c 2:2-3;1:2-3", "c 1:3-2", "c 0:2-3", "c 1:0-3", "c 1:0-0",
                   "c 1:2-3;2:3-3", "c 1:2-3;2:2-4")
        self.assertEqual(world_in("c 1:2-3;2:2-3;3:1-1 -")[0][0][1], (((1, 2, 3), (2, 2, 3), (3, 1, 1)), ()))

    def test_dials(self):
        self.wrong("c 1:2-3 1:1-3", "c 1:2-3 1:2-2", "c - 1:2-3", "c 2:2-3 1:2-3", "c 1:2-3 2:3-3;3:1-3")
        self.assertEqual(world_in("c 1:2-3 2:2-3")[0], (("c", (((1, 2, 3),), ((2, 2, 3),))),))

    def test_names(self):
        self.wrong("C -", "c1 -", "c\u00e9 -", "cccccccccc -", "ccccccccc -", "- -", "1:2-3", "1:2-3 1:2-3", "c: -", "c_ -",
                   "\u00df -")

    def test_blanks(self):
        self.wrong(" c -", "c -  -", "c  -", "c - ", "c -\t-", "c\t-", "\tc -", "c -\r", "c -\x0b", "c -\u2028", " ", "\t",
                   "c -\x0c-", "c -\u3000-", "c -\u00a0", "\ufeffc -")

    def test_the_order_of_switches(self):
        self.wrong("b -", "a -", "ab -", "azzzzzzz -")
        self.assertEqual(told("a -\nba -\nbb -\nb -"), 3)
        self.assertEqual([switch[0] for switch in world_in("a -\nab -\nb -")[0]], ["a", "ab", "b"])

    def test_zones_stand_behind_all_switches(self):
        self.assertEqual(told("a -\n@z 1 1 1 a+0\nb -"), 2)
        self.assertEqual(told("a -\n@z 1 1 1 b+0\nb -"), 1)
        self.assertEqual(told("@z 1 1 1 a+0\na -"), 0)
        self.assertEqual(told("a -\n@z 1 1 1 a+0\n"), 2)

    def wrong_zone(self, *lines):
        """Check that each of the lines is wrong as the second zone, and no matter what stands behind it."""
        for line, more in itertools.product(lines, ("", "\n", "\nx", "\n@z 1 1 1 a+0")):
            self.assertEqual(told(f"a 1:2-3\nb -\nc -\n@m 1 2 3 a+0>b-1 c+2\n{line}{more}"), 4, line)

    def test_zones(self):
        self.assertEqual(world_in("a -\nb -\nc -\n@m 1 2 3 a+0>b-1 c+2")[1],
                         (("m", 1, 2, 3, ((("a", 0), ("b", -1)), (("c", 2),))),))
        self.wrong_zone("@", "@x", "@x 1", "@x 1 2", "@x 1 2 3", "@x 1 2 3 ", "@x 1 2 a+0", "@ 1 2 3 a+0", "@x  1 2 3 a+0",
                        "@x 1 2  3 a+0", "@x 1 2 3  a+0", "@x 1 2 3 a+0 ", " @x 1 2 3 a+0", "@ x 1 2 3 a+0", "@x 1 2 3 4 a+0",
                        "@x 1 2 3\ta+0", "@@x 1 2 3 a+0", "x@ 1 2 3 a+0", "@X 1 2 3 a+0", "@x1 1 2 3 a+0",
                        "@xxxxxxxxx 1 2 3 a+0")

    def test_numbers_of_zones(self):
        self.wrong_zone("@x 0 2 3 a+0", "@x 3 2 3 a+0", "@x 1 2 0 a+0", "@x 01 2 3 a+0", "@x 1 02 3 a+0", "@x 1 2 03 a+0",
                        "@x 1 1000 3 a+0", "@x 1 2 1000 a+0", "@x -1 2 3 a+0", "@x 1 +2 3 a+0", "@x 1 2 -3 a+0", "@x 1-2 3 a+0",
                        "@x 0 0 3 a+0", "@x 1 2 x a+0", "@x 1 2 a+0 a+0", "@x - 2 3 a+0")

    def test_ways(self):
        self.wrong_zone("@x 1 2 3 -", "@x 1 2 3 a", "@x 1 2 3 a+", "@x 1 2 3 a-", "@x 1 2 3 a-0", "@x 1 2 3 a-00", "@x 1 2 3 +0",
                        "@x 1 2 3 -1", "@x 1 2 3 a+00", "@x 1 2 3 a+01", "@x 1 2 3 a-01", "@x 1 2 3 a+1000", "@x 1 2 3 a-1000",
                        "@x 1 2 3 a++1", "@x 1 2 3 a+-1", "@x 1 2 3 a-+1", "@x 1 2 3 a--1", "@x 1 2 3 a0", "@x 1 2 3 a:0",
                        "@x 1 2 3 a+0>", "@x 1 2 3 >a+0", "@x 1 2 3 a+0>>b+0", "@x 1 2 3 a+0<b+0", "@x 1 2 3 a+0,b+0",
                        "@x 1 2 3 a+0+0", "@x 1 2 3 a+0 -", "@x 1 2 3 d+0", "@x 1 2 3 m+0", "@x 1 2 3 A+0", "@x 1 2 3 a+0>a+0",
                        "@x 1 2 3 a+0 a+0", "@x 1 2 3 a+0>b+0 c+0>a+1", "@x 1 2 3 a+\u0663", "@x 1 2 3 a+0>d-1")

    def test_the_order_of_zones(self):
        self.wrong_zone("@m 1 2 3 a+0", "@a 1 2 3 a+0", "@lzzzzzzz 1 2 3 a+0")
        self.assertEqual([row[0] for row in world_in("m -\n@a 1 1 1 m+0\n@m 1 1 1 m+0")[1]], ["a", "m"])

    def test_the_first_wrong_line_decides(self):
        self.assertEqual([told("a -\nb\nc"), told("a\nb -\nc"), told("a -\n@z 1 1 1 a+0\n@y 1 1 1 a+0\n@y 1")], [1, 0, 2])

    def test_each_sign_that_is_spoilt(self):
        seen = [0, 0]
        for text in (YARD_TEXT, PAIR_TEXT, "a -\n@z 1 1 9 a+0", ""):
            for other in spoilt_texts(text):
                found = told(other)
                self.assertEqual(found, read_by_form(other), repr(other))
                if isinstance(found, tuple):
                    self.assertEqual(world_text(found), other)
                seen[isinstance(found, tuple)] += 1
        self.assertGreater(min(seen), 100)

    def test_lines_that_are_moved_left_out_or_doubled(self):
        lines = YARD_TEXT.split("\n")
        for size in range(1, len(lines) + 2):
            for some in itertools.product(lines, repeat=size) if size < 5 else itertools.permutations(lines, min(size, 5)):
                text = "\n".join(some)
                self.assertEqual(told(text), read_by_form(text))

    def test_any_strings(self):
        source = random.Random(11)
        for _ in range(3000):
            text = "".join(source.choice("ab1230:-;+>@ \n\t") for _ in range(source.randint(1, 12)))
            self.assertEqual(told(text), read_by_form(text), repr(text))
        for text in ("\x00", "\ud800", "%s", "9" * 5000, "a " + "1" * 5000 + ":1-1", "a 1:1-1 " + "x" * 5000, "\u0661"):
            self.assertEqual(told(text), 0)


class Settings(unittest.TestCase):
    def test_texts_of_settings(self):
        self.assertEqual([setting_text(setting) for setting in ((), (0,), (0, 2), (3, 0, 10))], ["-", "0", "0,2", "3,0,10"])

    def test_settings_are_read_back(self):
        for seed in range(100):
            world, setting = random_world(seed)
            self.assertEqual(setting_in(world, setting_text(setting)), setting)
        self.assertEqual(setting_in(((), ()), "-"), ())
        self.assertIs(is_setting(HOUSE, setting_in(listed(HOUSE), "0,1,2")), True)

    def bad(self, world, *texts):
        for text in texts:
            with self.assertRaises(BadText, msg=repr(text)) as caught:
                setting_in(world, text)
            self.assertEqual(vars(caught.exception), {})

    def test_wrong_texts(self):
        self.bad(HOUSE, "", "-", "0", "0,1", "0,1,2,0", "0,1,2,", ",0,1,2", "0,,1,2", "0,1,-", "0,1,-0", "0,1,-1", "0,1,+2",
                 "0,1,02", "00,1,2", "0,1,3", "0,3,2", "1,1,2", "0,1,1000", "0, 1,2", "0,1,2 ", " 0,1,2", "0,1,2\n", "\n0,1,2",
                 "0 1 2", "0;1;2", "0,1,2.", "0,1,\u0662", "0,1,\u00b2", "0,1,x", "0,1,2\t", "0,1,2,-", "0,1,1_0", "(0, 1, 2)")
        self.bad(((), ()), "", "0", "--", " -", "- ", "-\n", ",", "-0", "\n")

    def test_dials_beyond_two_digits(self):
        world = (("a", ((),) * 1001),), ()
        self.assertEqual([setting_in(world, text) for text in ("0", "10", "999")], [(0,), (10,), (999,)])
        self.bad(world, "1000", "0999", "010")

    def test_each_sign_that_is_spoilt(self):
        settings = {setting_text(setting): setting for setting in itertools.product(range(1), range(3), range(3))}
        for text in spoilt_texts("0,1,2"):
            if text in settings:
                self.assertEqual(setting_in(HOUSE, text), settings[text])
            else:
                self.bad(HOUSE, text)


class Rows(unittest.TestCase):
    def test_texts_of_rows(self):
        self.assertEqual(row_text(()), "-")
        self.assertEqual(row_text((("attic", 1, 0),)), "attic/1/0")
        self.assertEqual(row_text([["attic", 12, 999], ["a", 1, 1], ["attic", 12, 999]]), "attic/12/999 a/1/1 attic/12/999")


if __name__ == "__main__":
    unittest.main()
