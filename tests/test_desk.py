"""[12]: a desk that answers requests about a world."""

import itertools
import random
import unittest

from sample import HOUSE, YARD, curves_of, dark_by_words, first_cases, ladder_world, random_world, wide_world
from tripladder.desk import answers
from tripladder.errors import BadLine
from tripladder.first import is_good, spoilt
from tripladder.texts import world_text

TWO = "p 1:1-1 1:2-2 1:3-3\nq 1:1-1 1:2-2 1:3-3\n@x 1 1 9 p+0>q+0\n@y 1 1 9 q+0"
# On x a and b may open together, on y c opens alone; z is fed by two ways.
WIDE = ("a 1:1-3\nb 1:2-4\nc 1:1-1\nd 1:2-2\n@x 1 3 9 a+0>b+0\n@y 1 3 9 c+0>d+0\n@z 2 2 9 b+0>a+0 d+0>c+0")
REQUESTS = ("dial q 1", "dials", "least", "stick p", "free p", "first x 1 0", "fault x 1", "open", "close p", "dark",
            "good", "spoilt")


def asked(world, *requests):
    """The answers of a desk with the world of a text to these requests."""
    return answers("\n".join([world, "", *requests]) if world else "\n".join(["", *requests]))


def wrong(text):
    """The number of the line that is wrong; None if none is."""
    try:
        answers(text)
    except BadLine as error:
        return error.number
    return None


def least_by_search(world):
    """The good setting with the least dials, by trying all settings; None."""
    settings = itertools.product(*[range(len(dials)) for _, dials in world[0]])
    return next((setting for setting in settings if is_good(world, setting)), None)


class Model:
    """A desk in other words: it goes through all cases."""

    def __init__(self, world):
        self.world, self.setting = world, (0,) * len(world[0])
        self.stuck, self.gone = set(), set()

    def bare(self, word, *given):
        """The answer to a request without a name."""
        if word == "least":
            found = least_by_search(self.world)
            self.setting = self.setting if found is None else found
            return "none" if found is None else "done"
        if word == "good":
            return "yes" if is_good(self.world, self.setting) else "no"
        if word == "spoilt":
            return str(len(spoilt(self.world, self.setting)))
        if word == "dials":
            return ",".join(str(dial) for dial in self.setting) or "-"
        return " ".join(sorted(self.gone) if word == "open" else dark_by_words(self.world, self.gone)) or "-"

    def named(self, word, name, *given):
        """The answer to a request with a switch."""
        names = [switch[0] for switch in self.world[0]]
        if name not in names:
            return "refused NoSwitch"
        at = names.index(name)
        if word == "dial" and given[0] >= len(self.world[0][at][1]):
            return "refused NoDial"
        if word == "dial":
            self.setting = tuple(given[0] if place == at else dial for place, dial in enumerate(self.setting))
        elif word == "stick":
            self.stuck.add(name)
        else:
            (self.stuck if word == "free" else self.gone).discard(name)
        return "done"

    def fault(self, word, zone, level, *way):
        """The answer to first or fault."""
        row = {row[0]: row for row in self.world[1]}.get(zone)
        if row is None or not row[1] <= level <= row[2]:
            return "refused NoLevel" if row else "refused NoZone"
        if way and way[0] >= len(row[4]):
            return "refused NoWay"
        may, must, curves = set(), set(), curves_of(self.world, self.setting)
        for links in [row[4][way[0]]] if way else row[4]:
            if way or not self.gone & {name for name, _ in links}:
                cases = [set(case) for case in first_cases(curves, links, level, self.stuck)]
                may |= set.union(*cases)
                must |= set.intersection(*cases)
        self.gone |= set() if way else must
        return " ".join(sorted(may)) or "-"

    def told(self, request):
        word, *given = [int(part) if part.isdigit() else part for part in request.split(" ")]
        kinds = {0: self.bare, 1: self.named, 2: self.named if word == "dial" else self.fault, 3: self.fault}
        return kinds[len(given)](word, *given)


def random_request(source, world):
    """A request, of things of the world more often than of others."""
    switch = source.choice([name for name, _ in world[0]] + ["none"])
    row = source.choice([*world[1]] * 3 + [("none", 1, 1)])
    level = source.randint(max(row[1] - 1, 0), row[2] + 1) if source.random() < 0.2 else source.randint(row[1], row[2])
    return source.choice([
        f"dial {switch} {source.randint(0, 3)}", "dials", "least", f"stick {switch}", f"free {switch}",
        f"first {row[0]} {level} {source.randint(0, 2)}", f"fault {row[0]} {level}", f"fault {row[0]} {level}",
        f"fault {row[0]} {level}", "open", "open", f"close {switch}", "dark", "good", "spoilt"])


class Requests(unittest.TestCase):
    def test_a_desk_without_requests(self):
        self.assertEqual(answers(TWO + "\n"), [])
        self.assertEqual(answers(""), [])

    def test_each_request_at_first(self):
        told = [asked(TWO, request) for request in REQUESTS]
        self.assertEqual(told, [["done"], ["0,0"], ["done"], ["done"], ["done"], ["p q"], ["p q"], ["-"], ["done"],
                                ["-"], ["no"], ["1"]])

    def test_an_empty_world(self):
        told = asked("", "dials", "least", "dials", "open", "dark", "good", "spoilt", "stick a", "free a", "close a",
                     "dial a 0", "fault a 1", "first a 1 0")
        self.assertEqual(told, ["-", "done", "-", "-", "-", "yes", "0"] + ["refused NoSwitch"] * 4 + ["refused NoZone"] * 2)

    def test_a_world_without_zones(self):
        self.assertEqual(asked("a - -", "dial a 1", "least", "dials", "good", "dark", "fault a 1"),
                         ["done", "done", "0", "yes", "-", "refused NoZone"])

    def test_dial(self):
        told = asked(TWO, "dial q 2", "dials", "dial p 1", "dials", "dial q 0", "dials", "dial q 3", "dial q 999", "dials")
        self.assertEqual(told, ["done", "0,2", "done", "1,2", "done", "1,0", "refused NoDial", "refused NoDial", "1,0"])
        self.assertEqual(asked(TWO, "dial x 0", "dial r 9", "dial pp 0", "dials"), ["refused NoSwitch"] * 3 + ["0,0"])

    def test_least(self):
        told = asked(TWO, "dial p 2", "least", "dials", "good", "spoilt")
        self.assertEqual(told, ["done", "done", "0,1", "yes", "0"])

    def test_least_that_is_none_leaves_the_dials(self):
        told = asked(TWO + ">p+0", "dial p 2", "stick q", "least", "dials", "good", "spoilt", "fault x 1")
        self.assertEqual(told, ["done", "done", "none", "2,0", "no", "1", "p"])

    def test_what_is_told_of_the_dials_alone(self):
        more = "stick p", "stick q", "fault x 1", "least", "dials", "good", "spoilt"
        self.assertEqual(asked(TWO, *more), ["done", "done", "-", "done", "0,1", "yes", "0"])
        self.assertEqual(asked(TWO, "fault y 1", "stick q", "good", "spoilt", "open"), ["q", "done", "no", "1", "q"])

    def test_stick_and_free(self):
        told = asked(TWO, "stick p", "first x 1 0", "stick q", "first x 1 0", "free p", "first x 1 0", "free q", "first x 1 0")
        self.assertEqual(told, ["done", "q", "done", "-", "done", "p", "done", "p q"])

    def test_to_stick_twice_is_to_stick(self):
        told = asked(TWO, "stick p", "stick p", "free p", "first x 1 0", "free p", "first x 1 0", "stick z", "free x")
        self.assertEqual(told, ["done", "done", "done", "p q", "done", "p q", "refused NoSwitch", "refused NoSwitch"])

    def test_first(self):
        told = asked(WIDE, "first z 2 0", "first z 2 1", "stick d", "first z 2 1", "first y 3 0", "first x 1 0")
        self.assertEqual(told, ["a b", "c", "done", "c", "c", "a b"])
        told = asked(WIDE, "first a 9 9", "first z 1 9", "first z 3 0", "first z 2 2", "first x 0 0", "first x 1 1")
        self.assertEqual(told, ["refused " + name for name in ("NoZone", "NoLevel", "NoLevel", "NoWay", "NoLevel", "NoWay")])

    def test_first_opens_nothing_and_does_not_ask_what_is_open(self):
        told = asked(WIDE, "first y 1 0", "open", "fault y 1", "open", "first y 1 0", "first z 2 1")
        self.assertEqual(told, ["c", "-", "c", "c", "c", "c"])

    def test_fault(self):
        told = asked(WIDE, "fault x 1", "open", "fault y 1", "open", "dark", "fault w 1", "fault x 4", "fault z 1", "open")
        self.assertEqual(told, ["a b", "-", "c", "c", "y", "refused NoZone", "refused NoLevel", "refused NoLevel", "c"])

    def test_a_fault_on_a_zone_of_two_ways(self):
        self.assertEqual(asked(WIDE, "fault z 2", "open", "dark"), ["a b c", "c", "y"])
        self.assertEqual(asked(WIDE, "stick b", "fault z 2", "open", "dark"), ["done", "a c", "a c", "x y z"])

    def test_a_fault_behind_a_fault(self):
        told = asked(WIDE, "fault y 1", "fault y 1", "fault z 2", "open", "stick a", "fault z 2", "open", "fault z 2", "dark")
        self.assertEqual(told, ["c", "-", "a b", "c", "done", "b", "b c", "-", "x y z"])

    def test_a_way_with_any_open_one_is_left_out(self):
        self.assertEqual(asked(TWO, "fault y 1", "fault x 1", "open", "dark"), ["q", "-", "q", "x y"])

    def test_one_that_sticks_when_it_is_open_stays_open(self):
        told = asked(TWO, "fault y 1", "stick q", "open", "fault y 1", "close q", "fault y 1", "open", "free q", "fault y 1")
        self.assertEqual(told, ["q", "done", "q", "-", "done", "-", "-", "done", "q"])

    def test_close(self):
        told = asked(TWO, "close p", "fault y 1", "close p", "open", "close q", "open", "fault y 1", "open", "close y", "open")
        self.assertEqual(told, ["done", "q", "done", "q", "done", "-", "q", "q", "refused NoSwitch", "q"])

    def test_names_ascend_whatever_was_first(self):
        told = asked(WIDE, "fault y 1", "stick a", "fault x 1", "open", "stick b", "close b", "free a", "fault z 2", "open")
        self.assertEqual(told, ["c", "done", "b", "b c", "done", "done", "done", "a", "a c"])
        self.assertEqual(asked("a 1:2-2\nb 1:2-2\n@y 1 1 9 b+0>a+0", "fault y 1", "open", "first y 1 0"), ["a b"] * 3)

    def test_the_dials_count_for_faults(self):
        told = asked(TWO, "dial p 2", "fault x 1", "close q", "dial q 1", "dial p 1", "fault x 1", "open", "dark")
        self.assertEqual(told, ["done", "q", "done", "done", "done", "p q", "p q", "x y"])

    def test_words_of_requests_may_be_names(self):
        text = "dial 1:1-1\nopen 1:2-2\n@fault 1 1 9 dial+0>open+0\n\nfault fault 1\nopen\nstick dial\nclose dial\ndark\ndial dial 0"
        self.assertEqual(answers(text), ["dial", "dial", "done", "done", "-", "done"])

    def test_random_requests_as_by_all_cases(self):
        refused = set()
        for seed, make in itertools.product(range(120), (random_world, ladder_world, wide_world)):
            world, _ = make(seed)
            source, model = random.Random(seed), Model(world)
            requests = [random_request(source, world) for _ in range(40)]
            expected = [model.told(request) for request in requests]
            self.assertEqual(asked(world_text(world), *requests), expected, (seed, world, requests))
            refused |= {answer for answer in expected if answer.startswith("refused")}
        self.assertEqual(len(refused), 5)


class WrongLines(unittest.TestCase):
    def test_lines_of_the_world(self):
        self.assertEqual([wrong("p\n\ngood"), wrong("p -\nq\n\ngood"), wrong("p -\n@x 1 1 9 q+0\n\nx"), wrong(" \n\ngood")],
                         [0, 1, 1, 0])
        self.assertEqual(wrong("p -\np -\n\nbad"), 1)

    def test_the_world_comes_ahead_of_the_requests(self):
        self.assertEqual([wrong("p -\nq\n\nbad"), wrong("p -\nq -\n\nbad"), wrong("p -\nq -\n\ngood\nbad\nworse")], [1, 3, 4])

    def test_the_empty_line_is_missing(self):
        self.assertEqual([wrong("p -"), wrong("p -\nq -"), wrong(TWO)], [1, 2, 4])
        self.assertEqual([wrong("p -\ngood"), wrong("good"), wrong("p -\nq - \nr"), wrong("p -\n ")], [1, 0, 1, 1])

    def test_the_first_empty_line_parts(self):
        self.assertEqual([wrong(""), wrong("p -\n"), wrong("\ngood")], [None, None, None])
        self.assertEqual([wrong("\n"), wrong("p -\n\n"), wrong("\n\ngood"), wrong("p -\n\n\ngood")], [1, 2, 1, 2])
        self.assertEqual(wrong("\np -\n\ngood"), 1)

    def test_an_empty_line_among_the_requests(self):
        self.assertEqual([wrong("p -\n\ngood\n"), wrong("p -\n\ngood\n\ngood"), wrong("\ngood\nopen\n")], [3, 3, 3])

    def test_a_wrong_request_is_found_ahead_of_all_answers(self):
        self.assertEqual(wrong("p -\n\nfault x 9\nclose q\ngood good"), 4)

    def test_requests_that_are_not_so_written(self):
        for request in ("Good", "good ", " good", "good 1", "goo", "dials 0", "dial", "dial p", "dial p 1 1", "dial p  1",
                        "dial  p 1", "dial p 01", "dial p -1", "dial p -0", "dial p +1", "dial p 1000", "dial p x", "dial 1 p",
                        "dial P 1", "dial p1 1", "dial ppppppppp 1", "dial p 1 ", "dial p \u0661", "dial p \u00b2", "dial p,1",
                        "dial\tp 1", "dial p 1\t", "dial p 1\r", "dial - 1", "dial p -", "stick", "stick p q", "stick 1", "stick P",
                        "stick p ", "free", "free -", "free p q", "first x", "first x 1", "first x 1 0 0", "first x 1 -1",
                        "first x 1 00", "first @x 1 0", "first x one 0", "fault", "fault x", "fault x 1 0", "fault x -1",
                        "fault x 01", "fault xxxxxxxxx 1", "fault 1 x", "open p", "open ", "close", "close p q", "close \u00e9",
                        "dark x", "dark -", "spoilt 1", "least 1", "leasts", "refused", "-", "0", "@x", "p -", "none", " "):
            for more in ("", "\ngood", "\nbad"):
                self.assertEqual(wrong(f"p -\n\ngood\n{request}{more}"), 3, (request, more))

    def test_requests_of_things_that_are_none_are_so_written(self):
        for request in ("dial zzzzzzzz 999", "fault zzzzzzzz 999", "first p 0 0", "stick x", "close x", "free x"):
            self.assertIsNone(wrong(f"p -\n\n{request}"))

    def test_each_word_of_the_requests(self):
        for request in REQUESTS:
            for at in range(len(request) + 1):
                for sign in " 0-A\t":
                    other = request[:at] + sign + request[at:]
                    if sign == "0" and request[:at].endswith(("x", " ")) or sign == "0" and request[at - 1:at] in ("1", "0"):
                        continue
                    self.assertEqual(wrong(f"{TWO}\n\n{other}"), 5, other)


class Calls(unittest.TestCase):
    def test_a_second_desk_begins_anew(self):
        text = TWO + "\n\nfault y 1\nopen\ndial p 2\nstick p\nfirst x 1 0"
        told = answers(text)
        told.append("more")
        self.assertEqual(answers(text=text), ["q", "q", "done", "done", "q"])
        self.assertEqual(asked(TWO, "open", "dials", "first x 1 0"), ["-", "0,0", "p q"])

    def test_the_worlds_of_the_samples(self):
        told = asked(world_text(HOUSE), "least", "dials", "fault attic 1", "dark", "stick a", "close a", "fault attic 1", "dark")
        self.assertEqual(told, ["done", "0,1,2", "a", "attic", "done", "done", "b", "attic hall"])
        told = asked(world_text(YARD), "fault barn 2", "fault barn 3", "dark", "dial near 2", "close near", "fault barn 3", "open")
        self.assertEqual(told, ["near", "slow", "barn", "done", "done", "-", "slow"])


if __name__ == "__main__":
    unittest.main()
