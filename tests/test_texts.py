"""Papers as texts: points 77 to 79, and the interface of waypapers/texts.py."""

import copy
import random
import unittest

from asking import AskingTest
from plain import random_map
from samples import fields, town
from waypapers.errors import InvalidPaper
from waypapers.maps import Map
from waypapers.papers import Paper, check_paper, paper
from waypapers.texts import check_text, paper_text, parse_paper

# Papers, each with its written form.
PAPERS = [
    (Paper(None, None, []), "none"),
    (Paper(None, None, [("r", 5)]), "none\nlow r 5"),
    (Paper((), 0, []), "arrives 0"),
    (Paper((), 7, [("r", 12), ("q", 0)]), "arrives 7\nlow r 12\nlow q 0"),
    (Paper(["r"], 15, []), "arrives 15\nby r"),
    (Paper(["r"], 15, [("r", 15)]), "arrives 15\nby r\nlow r 15"),
    (Paper(["r", "q", "r"], 999999999, [("r", 15)]), "arrives 999999999\nby r\nby q\nby r\nlow r 15"),
    (Paper(None, None, [("s", 9), ("r", 3), ("s", 9), ("s", 1)]), "none\nlow s 9\nlow r 3\nlow s 9\nlow s 1"),
    (Paper(["low", "by"], 10, [("arrives", 1), ("none", 2)]), "arrives 10\nby low\nby by\nlow arrives 1\nlow none 2"),
    (Paper(["abcdefghijkl"], 100, [("a23456789012", 20)]), "arrives 100\nby abcdefghijkl\nlow a23456789012 20"),
]

NO_NAMES = ["R", "9", "r-1", "abcdefghijklm", ":", "", "_", "r\t", "\u00e4", "5", "r:"]
NO_NUMBERS = [
    "", "x", "-1", "+1", "00", "01", "015", "1234567890", "0000000001", "1.0", "\u0663", "\u00b2", "1_0", "0x1", "none",
    "15\r", "15\t", "1e3",
]

# Lines that stand nowhere in a written form.
BAD_LINES = [
    "", " ", "x", ":", "None", "NONE", "Arrives 5", "By r", "Low r 5", "BY r", "arrive 5", "byr", "lows r 5",
    "none none", "none 5", "none r", "arrives", "arrives 5 6", "arrives r", "arrives 5 r", "by", "by r q", "by r 5",
    "low", "low r", "low 5", "low r 5 6", "low r q 5", "low 5 r", "r", "5", "r 5", "by 5", "day 60",
    "road r a b 5 : : always",
    # Blanks at an end, and two blanks.
    " none", "none ", " arrives 5", "arrives 5 ", "arrives  5", " by r", "by r ", "by  r", "by ", " low r 5",
    "low r 5 ", "low  r 5", "low r  5", "low r ", "low  5", "none\r", "by\tr", "low r\t5", "none;", "arrives ",
    *[f"arrives {number}" for number in NO_NUMBERS], *[f"low r {number}" for number in NO_NUMBERS],
    *[f"by {name}" for name in NO_NAMES], *[f"low {name} 5" for name in NO_NAMES],
]


def parts(told):
    return (told.roads, told.arrival, told.lows)


class TextsTest(AskingTest):
    def assert_line(self, line, text):
        with self.subTest(text=text):
            with self.assertRaises(InvalidPaper) as caught:
                parse_paper(text)
            self.assertEqual(caught.exception.line, line)


class PaperTextTest(TextsTest):
    def test_papers(self):
        for told, text in PAPERS:
            with self.subTest(text=text):
                self.assertEqual(paper_text(told), text)

    def test_the_paper_stays_as_it_is(self):
        told = Paper(["r", "q"], 15, [("q", 15), ("r", 3)])
        kept = copy.deepcopy(vars(told))
        self.assertEqual(paper_text(told), paper_text(told))
        self.assertEqual(vars(told), kept)

    def test_papers_of_maps(self):
        chart = Map(day=60, kinds=["foot"], places=["a", "b"], roads=[("r", "a", "b", 5, ["foot"], [(10, 30)])])
        self.assertEqual(paper_text(paper(chart, "foot", "a", "b", 0)), "arrives 15\nby r\nlow r 15")
        self.assertEqual(paper_text(paper(chart, "foot", "b", "a", 0)), "none")
        self.assertEqual(paper_text(paper(chart, "foot", "a", "a", 31)), "arrives 31\nlow r 75")


class ParsePaperTest(TextsTest):
    def test_papers(self):
        for told, text in PAPERS:
            with self.subTest(text=text):
                read = parse_paper(text)
                self.assertIsInstance(read, Paper)
                self.assertEqual(parts(read), parts(told))
                self.assertEqual(paper_text(read), text)

    def test_kinds_of_the_parts(self):
        told = parse_paper("arrives 15\nby r\nlow r 15")
        self.assertEqual((told.roads, told.arrival, told.lows), (("r",), 15, [("r", 15)]))
        self.assertEqual(parts(parse_paper("none")), (None, None, []))
        self.assertEqual(parts(parse_paper("arrives 3")), ((), 3, []))

    def test_what_was_written_is_read_back(self):
        for seed in range(100):
            chance = random.Random(seed)
            names = [f"r{number}" for number in range(5)]
            roads = None if chance.random() < 0.3 else [chance.choice(names) for _ in range(chance.randint(0, 6))]
            numbers = [chance.randrange(10 ** chance.randint(1, 9)) for _ in range(chance.randint(0, 9))]
            lows = [(chance.choice(names), number) for number in numbers]
            told = Paper(roads, None if roads is None else chance.randrange(10 ** 9), lows)
            text = paper_text(told)
            self.assertEqual(parts(parse_paper(text)), parts(told))
            self.assertEqual(paper_text(parse_paper(text)), text)

    def test_numbers_of_the_bounds(self):
        for number in (0, 1, 9, 10, 999999, 1000000, 999999999):
            self.assertEqual(parse_paper(f"arrives {number}").arrival, number)
            self.assertEqual(parse_paper(f"none\nlow r {number}").lows, [("r", number)])

    def test_a_new_paper(self):
        parse_paper("none\nlow r 5").lows.append("more")
        self.assertEqual(parse_paper("none\nlow r 5").lows, [("r", 5)])


class BadTextsTest(TextsTest):
    def test_the_first_line(self):
        for bad in [*BAD_LINES, "by r", "low r 5"]:
            self.assert_line(1, bad)
            self.assert_line(1, bad + "\nlow r 5")
            self.assert_line(1, bad + "\nnone")
            self.assert_line(1, bad + "\nx")

    def test_further_lines(self):
        for bad in [*BAD_LINES, "none", "arrives 5"]:
            for ahead in ("none", "arrives 5", "arrives 5\nby r", "none\nlow r 5", "arrives 5\nby r\nlow r 5"):
                number = ahead.count("\n") + 2
                for behind in ("", "\nlow r 5", "\nx", "\n"):
                    self.assert_line(number, ahead + "\n" + bad + behind)

    def test_by_behind_none(self):
        self.assert_line(2, "none\nby r")
        self.assert_line(2, "none\nby r\nlow r 5")
        self.assert_line(3, "none\nlow r 5\nby r")

    def test_by_behind_low(self):
        self.assert_line(3, "arrives 15\nlow r 15\nby r")
        self.assert_line(4, "arrives 15\nby r\nlow r 15\nby r\nx")
        self.assert_line(4, "arrives 15\nlow r 15\nlow r 15\nby r\nby r")

    def test_the_empty_string_and_empty_lines(self):
        self.assert_line(1, "")
        self.assert_line(1, "\n")
        self.assert_line(1, "\nnone")
        self.assert_line(2, "none\n")
        self.assert_line(2, "arrives 5\n\nby r")
        self.assert_line(3, "arrives 5\nby r\n")
        self.assert_line(4, "arrives 5\nby r\nlow r 5\n")

    def test_lines_are_separated_by_newlines_only(self):
        for sign in ("\r", "\r\n", "\x0b", "\x0c", "\x1c", "\x85", "\u2028", ";", " "):
            self.assert_line(1, f"none{sign}low r 5")
            self.assert_line(2, f"arrives 5\nby r{sign}low r 5")


class CheckTextTest(TextsTest):
    def chart(self):
        return Map(day=60, kinds=["foot"], places=["a", "b"], roads=[("r", "a", "b", 5, ["foot"], [(10, 30)])])

    def assert_bad(self, line, *told):
        with self.assertRaises(InvalidPaper) as caught:
            check_text(*told)
        self.assertEqual(caught.exception.line, line)

    def test_example_of_the_interface(self):
        self.assertIs(check_text(self.chart(), "foot", "a", "b", 0, "arrives 15\nby r\nlow r 15"), True)
        self.assertIs(check_text(self.chart(), "foot", "a", "b", 0, "none"), False)
        self.assert_bad(3, self.chart(), "foot", "a", "b", 0, "arrives 15\nlow r 15\nby r")

    def test_texts_of_papers(self):
        for seed in range(40):
            chart = random_map(seed, places=4, roads=7, bars=4)
            for goal in chart.places:
                told = paper(chart, "car", "p0", goal, seed)
                text = paper_text(told)
                self.assertIs(check_text(chart, "car", "p0", goal, seed, text), True)
                for other in chart.places:
                    expected = check_paper(chart, "car", "p0", other, seed + 1, told)
                    self.assertIs(check_text(chart, "car", "p0", other, seed + 1, text), expected)

    def test_wrong_papers(self):
        for text in (
            "none", "none\nlow r 15", "arrives 15", "arrives 15\nby r", "arrives 14\nby r\nlow r 14", "arrives 0",
            "arrives 16\nby r\nlow r 15", "arrives 15\nby r\nby r\nlow r 15", "arrives 15\nby r\nlow r 15\nlow r 14",
            "arrives 15\nby r\nlow r 16", "arrives 15\nlow r 15",
        ):
            self.assertIs(check_text(self.chart(), "foot", "a", "b", 0, text), False)
        self.assertIs(check_text(self.chart(), "foot", "a", "b", 0, "arrives 15\nby r\nlow r 99\nlow r 15"), True)
        self.assertIs(check_text(self.chart(), "foot", "b", "a", 0, "none"), True)
        self.assertIs(check_text(self.chart(), "foot", "a", "a", 9, "arrives 9\nlow r 0"), True)

    def test_names_that_the_map_does_not_have(self):
        chart = self.chart()
        self.assertEqual(parse_paper("arrives 5\nby s\nlow t 5").roads, ("s",))
        text = "arrives 5\nby r\nby s1\nby s2\nlow r 5\nlow s3 5"
        self.assert_unknown("car", check_text, chart, "car", "x", "y", 0, text)
        self.assert_unknown("x", check_text, chart, "foot", "x", "y", 0, text)
        self.assert_unknown("y", check_text, chart, "foot", "a", "y", 0, text)
        self.assert_unknown("s1", check_text, chart, "foot", "a", "b", 0, text)
        self.assert_unknown("s3", check_text, chart, "foot", "a", "b", 0, "none\nlow r 5\nlow s3 5\nlow s4 5")
        self.assert_unknown("s3", check_text, chart, "foot", "a", "a", 0, "arrives 0\nlow s3 5")
        self.assert_unknown("a", check_text, chart, "foot", "a", "b", 0, "arrives 0\nby a")

    def test_the_errors_of_the_form_come_first(self):
        chart = self.chart()
        for kind, start, goal in (("car", "x", "y"), ("foot", "x", "y"), ("foot", "a", "y"), ("foot", "a", "a")):
            self.assert_bad(1, chart, kind, start, goal, 0, "")
            self.assert_bad(2, chart, kind, start, goal, 0, "none\nby s")
            self.assert_bad(4, chart, kind, start, goal, 0, "arrives 5\nby s\nlow t 5\nlow t 05")

    def test_nothing_changes(self):
        chart = town()
        text = paper_text(paper(chart, "bus", "inn", "pier", 3))
        one, other = self.assert_nothing_changes(check_text, chart, "bus", "inn", "pier", 3, text)
        self.assertEqual((one, other, fields(chart)), (True, True, fields(town())))


if __name__ == "__main__":
    unittest.main()
