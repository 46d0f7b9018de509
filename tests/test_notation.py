"""Notation: points 9 to 11, and the interface of waypapers/notation.py."""

import random
import unittest

from samples import fields, town
from waypapers.errors import InvalidMap, InvalidNotation
from waypapers.maps import Map
from waypapers.notation import format_map, parse_map

TOWN = "\n".join([
    "day 60",
    "kinds bus foot",
    "places inn lone mill pier",
    "road back pier inn 7 : bus foot : 0-30",
    "road ferry mill pier 20 : bus : 10-20 30-60",
    "road lane inn mill 5 : bus foot : always",
    "road path mill inn 9 : : always",
    "road ring mill mill 1 : bus foot : always",
    "road ruin inn pier 3 : bus foot :",
    "bar lane ferry",
    "bar ring ring",
])
HEAD = "day 60\nkinds car\nplaces a b"
ROAD = "road r a b 5 : car : always"


class NotationTest(unittest.TestCase):
    def assert_line(self, text, line):
        with self.subTest(text=text):
            with self.assertRaises(InvalidNotation) as caught:
                parse_map(text)
            self.assertEqual(caught.exception.line, line)

    def assert_invalid_map(self, text):
        with self.subTest(text=text):
            with self.assertRaises(InvalidMap):
                parse_map(text)


class FormatTest(NotationTest):
    def test_town(self):
        self.assertEqual(format_map(town()), TOWN)

    def test_least_map(self):
        self.assertEqual(format_map(Map(day=1, kinds=["car"])), "day 1\nkinds car\nplaces")

    def test_no_roads(self):
        chart = Map(day=1440, kinds=["car", "bus"], places=["b", "a"])
        self.assertEqual(format_map(chart), "day 1440\nkinds bus car\nplaces a b")

    def test_parts_of_roads(self):
        for kinds, hours, words in (
            ([], None, ": : always"), ([], [], ": :"), (["car"], [], ": car :"), ([], [(0, 60)], ": : 0-60"),
            (["car", "bus"], [(0, 1), (2, 3), (4, 5), (6, 60)], ": bus car : 0-1 2-3 4-5 6-60"),
        ):
            chart = Map(day=60, kinds=["car", "bus"], places=["a"], roads=[("r", "a", "a", 1000, kinds, hours)])
            self.assertEqual(format_map(chart).split("\n")[3], f"road r a a 1000 {words}")


class ReadBackTest(NotationTest):
    def test_town(self):
        self.assertEqual(fields(parse_map(TOWN)), fields(town()))
        self.assertEqual(format_map(parse_map(TOWN)), TOWN)

    def test_least_map(self):
        self.assertEqual(fields(parse_map("day 1\nkinds car\nplaces")), (1, ("car",), (), (), ()))

    def test_any_order_within_the_sorts(self):
        text = "\n".join([
            "day 60", "kinds foot bus", "places pier mill inn lone",
            "road ruin inn pier 3 : foot bus :", "road lane inn mill 5 : foot bus : always",
            "road back pier inn 7 : bus foot : 0-30", "road path mill inn 9 : : always",
            "road ring mill mill 1 : bus foot : always", "road ferry mill pier 20 : bus : 10-20 30-60",
            "bar ring ring", "bar lane ferry",
        ])
        self.assertEqual(fields(parse_map(text)), fields(town()))

    def test_names_that_are_words_of_the_notation(self):
        text = "\n".join([
            "day 9", "kinds always bar kinds road", "places bar day places road",
            "road bar road bar 1 : always road : always", "road road bar road 1 : bar kinds : 0-9",
            "bar bar road", "bar road bar",
        ])
        self.assertEqual(format_map(parse_map(text)), text)

    def test_zero_and_numbers_of_the_bounds(self):
        text = "day 1440\nkinds k\nplaces a\nroad r a a 1000 : k : 0-1 1439-1440"
        self.assertEqual(parse_map(text).road("r"), ("r", "a", "a", 1000, ("k",), ((0, 1), (1439, 1440))))

    def test_random_maps(self):
        chance = random.Random(9)
        for _ in range(200):
            chart = random_map(chance)
            text = format_map(chart)
            self.assertEqual(fields(parse_map(text)), fields(chart))
            self.assertEqual(format_map(parse_map(text)), text)
            for line in text.split("\n"):
                self.assertEqual(line, " ".join(line.split()))


def random_map(chance):
    day = chance.choice([1, 7, 60, 1440])
    kinds = chance.sample(["bus", "car", "foot", "k9"], chance.randint(1, 4))
    places = [f"p{number}" for number in range(chance.randint(1, 30))]
    roads = []
    for number in range(chance.randint(0, 60)):
        minutes = sorted(chance.sample(range(day + 1), min(day + 1, 8)))
        pairs = [(minutes[at], minutes[at + 1]) for at in range(0, len(minutes) - 1, 2)]
        hours = chance.choice([None, [], pairs[:1], pairs])
        users = chance.sample(kinds, chance.randint(0, len(kinds)))
        road = (f"r{number}", chance.choice(places), chance.choice(places), chance.randint(1, 1000), users, hours)
        roads.append(road)
    touching = [(one[0], two[0]) for one in roads for two in roads if one[2] == two[1]]
    bars = chance.sample(touching, min(len(touching), chance.randint(0, 40)))
    return Map(day=day, kinds=kinds, places=places, roads=roads, bars=bars)


class DayLineTest(NotationTest):
    def test_first_line(self):
        for bad in (
            "", "day", "day ", " day 60", "day  60", "day 60 ", "day 60 60", "days 60", "Day 60", "60", "60 day",
            "day x", "day -1", "day +1", "day 6.0", "day 060", "day 00", "day 1234567", "day 0000001", "day\t60",
            "day 60\r", "day \u0663", "day 6\u00b2", "day 1_0", "kinds car", "places", "bar r r", ROAD, "day :",
        ):
            self.assert_line(bad, 1)
            self.assert_line(bad + "\nkinds car\nplaces a b", 1)
            self.assert_line(bad + "\nx", 1)


class KindsLineTest(NotationTest):
    def test_second_line(self):
        for bad in (
            "", "kind car", "kinds ", "kinds  car", "kinds car ", " kinds car", "kinds Car", "kinds 9", "kinds car,bus",
            "kinds abcdefghijklm", "places a", "day 60", "car", "kinds :", "Kinds car", "kinds\tcar", "kinds car\r",
        ):
            self.assert_line("day 60\n" + bad, 2)
            self.assert_line("day 60\n" + bad + "\nplaces a b", 2)
            self.assert_line("day 60\n" + bad + "\nx", 2)


class PlacesLineTest(NotationTest):
    def test_third_line(self):
        for bad in (
            "", "place a", "places ", "places  a", "places a ", " places", "places A", "places 1", "places a-b",
            "places abcdefghijklm", "kinds car", "bar r r", ROAD, "a b", "Places a", "places\ta", "places a\r",
        ):
            self.assert_line("day 60\nkinds car\n" + bad, 3)
            self.assert_line("day 60\nkinds car\n" + bad + "\nx", 3)


class RoadLineTest(NotationTest):
    def test_form(self):
        for bad in (
            "", "road", "road ", "road r", "road r a b 5", "road r a b 5 :", "road r a b 5 : car",
            "road r a b : car : always", "road r a b 5 6 : car : always", "road a b 5 : car : always",
            "road r a b 5 car : always", "road r a b 5 : car always", "road r a b 5 : car : always :",
            "road r a b 5 : : car : always", "road r a b 5: car : always", "road r a b 5 :car : always",
            "road  r a b 5 : car : always", "road r a b 5 :  : always", "road r a b 5 : car : ",
            "road r a b 5 : car :  always", "road r a b 5 : car : always ", " " + ROAD, ROAD + "\r", ROAD + "\t",
            "roads r a b 5 : car : always", "Road r a b 5 : car : always", "r a b 5 : car : always",
            "unroad r a b 5 : car : always", "road r a b 5 ; car ; always", ": car : always", "road : : always",
        ):
            self.assert_line(HEAD + "\n" + bad, 4)
            self.assert_line(HEAD + "\n" + bad + "\nx", 4)
            self.assert_line(HEAD + "\n" + ROAD + "\n" + bad, 5)

    def test_names(self):
        for bad in (
            "road R a b 5 : car : always", "road r 1 b 5 : car : always", "road r a b- 5 : car : always",
            "road abcdefghijklm a b 5 : car : always", "road r a b 5 : Car : always", "road r a b 5 : car 9 : always",
            "road r a b 5 : car,bus : always", "road r a 5 b : car : always",
        ):
            self.assert_line(HEAD + "\n" + bad, 4)

    def test_numbers(self):
        for bad in ("05", "00", "-5", "+5", "5.", "five", "1234567", "0000005", "\u0665", "\u00b2", "1_0", "0x5"):
            self.assert_line(HEAD + f"\nroad r a b {bad} : car : always", 4)
            self.assert_line(HEAD + f"\nroad r a b 5 : car : {bad}-9", 4)
            self.assert_line(HEAD + f"\nroad r a b 5 : car : 0-{bad}", 4)
            self.assert_line(HEAD + f"\nroad r a b 5 : car : 0-1 {bad}-9", 4)

    def test_hours(self):
        for bad in (
            "5", "5-", "-5", "-", "5-6-7", "5--6", "5:6", "5_6", "5,6", "None", "Always", "never", "always always",
            "always 5-6", "5-6 always", "5 - 6", "5-6,7-8", "5-6  7-8", "5-6 7", "a-b", "()",
        ):
            self.assert_line(HEAD + f"\nroad r a b 5 : car : {bad}", 4)


class BarLineTest(NotationTest):
    def test_form(self):
        for bad in (
            "", "bar", "bar r", "bar ", "bar r ", "bar r r r", "bar r r ", "bar  r r", "bar r  r", " bar r r",
            "bar R r", "bar r 9", "bar r -", "bars r r", "Bar r r", "bar r : r", "unbar r r", "bar r abcdefghijklm",
            "bar r r\r", "bar\tr r", "day 60", "kinds car", "places a b", "day", "x",
        ):
            self.assert_line(HEAD + "\n" + bad, 4)
            self.assert_line(HEAD + "\n" + ROAD + "\nbar r r\n" + bad, 6)
            self.assert_line(HEAD + "\n" + ROAD + "\n" + bad + "\nx", 5)

    def test_roads_stand_ahead_of_bars(self):
        self.assert_line(HEAD + "\nbar r r\n" + ROAD, 5)
        self.assert_line(HEAD + "\n" + ROAD + "\nbar r r\nbar r r\n" + ROAD + "\nx", 7)
        self.assert_line(HEAD + "\n" + ROAD + "\nbar r r\nroad x", 6)


class LineNumberTest(NotationTest):
    def test_text_that_ends_ahead_of_its_third_line(self):
        self.assert_line("", 1)
        self.assert_line("day 60", 2)
        self.assert_line("day 60\nkinds car", 3)
        self.assert_line("day 9999", 2)
        self.assert_line("day 0\nkinds", 3)

    def test_first_of_several_faults(self):
        self.assert_line("day\nkinds\nPlaces", 1)
        self.assert_line("day x", 1)
        self.assert_line("day 60\nx", 2)
        self.assert_line("x\n", 1)
        self.assert_line(HEAD + "\nx\ny\n", 4)

    def test_empty_lines(self):
        self.assert_line("\n", 1)
        self.assert_line("\n" + HEAD, 1)
        self.assert_line("day 60\n", 2)
        self.assert_line("day 60\n\nkinds car\nplaces a b", 2)
        self.assert_line("day 60\nkinds car\n", 3)
        self.assert_line("day 60\nkinds car\n\nplaces a b", 3)
        self.assert_line(HEAD + "\n", 4)
        self.assert_line(HEAD + "\n\n" + ROAD, 4)
        self.assert_line(HEAD + "\n" + ROAD + "\n", 5)
        self.assert_line(HEAD + "\n" + ROAD + "\n\n", 5)

    def test_lines_are_separated_by_newlines_only(self):
        for sign in ("\r", "\r\n", "\x0b", "\x0c", "\x1c", "\x85", "\u2028", ";"):
            self.assert_line(HEAD.replace("\n", sign), 1)
            self.assert_line(HEAD + sign + ROAD, 3)


class BrokenRulesTest(NotationTest):
    def test_bounds(self):
        for day in (0, 1441, 999999):
            self.assert_invalid_map(f"day {day}\nkinds car\nplaces a b")
        self.assert_invalid_map("day 60\nkinds\nplaces a b")
        self.assert_invalid_map("day 60\nkinds a b c d e\nplaces a b")
        self.assert_invalid_map("day 60\nkinds car\nplaces " + " ".join(f"p{number}" for number in range(31)))
        for minutes in (0, 1001, 999999):
            self.assert_invalid_map(HEAD + f"\nroad r a b {minutes} : car : always")
        roads = [f"road r{number} a a 5 : : always" for number in range(61)]
        self.assertEqual(len(parse_map("\n".join([HEAD, *roads[:60]])).roads), 60)
        self.assert_invalid_map("\n".join([HEAD, *roads]))
        bars = [f"bar r{one} r{two}" for one in range(7) for two in range(7)]
        self.assertEqual(len(parse_map("\n".join([HEAD, *roads[:7], *bars[:40]])).bars), 40)
        self.assert_invalid_map("\n".join([HEAD, *roads[:7], *bars[:41]]))

    def test_names(self):
        self.assert_invalid_map("day 60\nkinds car car\nplaces a b")
        self.assert_invalid_map("day 60\nkinds car\nplaces a b a")
        self.assert_invalid_map(HEAD + "\n" + ROAD + "\n" + ROAD)
        self.assert_invalid_map(HEAD + "\nroad r c b 5 : car : always")
        self.assert_invalid_map(HEAD + "\nroad r a c 5 : car : always")
        self.assert_invalid_map(HEAD + "\nroad r a b 5 : bus : always")
        self.assert_invalid_map(HEAD + "\nroad r a b 5 : car car : always")

    def test_hours(self):
        for hours in ("5-5", "6-5", "0-61", "999999-999999", "0-5 5-9", "6-9 0-5", "0-1 2-3 4-5 6-7 8-9"):
            self.assert_invalid_map(HEAD + f"\nroad r a b 5 : car : {hours}")

    def test_bars(self):
        self.assert_invalid_map(HEAD + "\nbar r r")
        self.assert_invalid_map(HEAD + "\n" + ROAD + "\nbar r r")
        self.assert_invalid_map(HEAD + "\n" + ROAD + "\nbar r q")
        self.assert_invalid_map(HEAD + "\nroad r a a 5 : : always\nbar r r\nbar r r")

    def test_the_form_comes_first(self):
        self.assert_line("day 0\nkinds\nplaces a a\nroad r z z 0 : z : 9-9\nbar z z\nx", 6)
        self.assert_line("day 0\nkinds car\nplaces A", 3)


class ExampleTest(NotationTest):
    def test_examples_of_the_interface(self):
        chart = Map(
            day=60, kinds=["foot"], places=["a"],
            roads=[("r", "a", "a", 5, ["foot"], [(0, 9), (10, 60)])], bars=[("r", "r")],
        )
        text = "day 60\nkinds foot\nplaces a\nroad r a a 5 : foot : 0-9 10-60\nbar r r"
        self.assertEqual(format_map(chart), text)
        self.assert_invalid_map("day 60\nkinds foot\nplaces a\nroad r a b 5 : : always")
        self.assert_line("day 60\nkinds foot\nbar r r", 3)


if __name__ == "__main__":
    unittest.main()
