"""Texts of sets and of journals: points 65 to 67, and the interface of waypapers/slips.py."""

import copy
import random
import unittest

from asking import AskingTest
from changing import random_change, random_set
from plain import random_map
from samples import fields, town
from waypapers.desk import Desk, Entry, replayed
from waypapers.errors import InvalidNotation
from waypapers.sets import applied
from waypapers.slips import format_changes, format_journal, parse_changes, parse_journal

# Changes of each sort with the line of each, with hours and kinds of every form.
LINES = [
    (("place", "inn"), "place inn"),
    (("unplace", "p9"), "unplace p9"),
    (("road", ("r", "a", "b", 5, ("bus", "car"), None)), "road r a b 5 : bus car : always"),
    (("road", ("r", "a", "a", 1000, (), ())), "road r a a 1000 : :"),
    (("road", ("r", "a", "b", 5, ("bus",), ((0, 9), (10, 60)))), "road r a b 5 : bus : 0-9 10-60"),
    (("unroad", ("r", "a", "b", 5, ("bus", "car"), ())), "unroad r a b 5 : bus car :"),
    (("unroad", ("r", "a", "b", 1, (), None)), "unroad r a b 1 : : always"),
    (("unroad", ("r", "a", "b", 1, (), ((3, 4),))), "unroad r a b 1 : : 3-4"),
    (("minutes", "r", 5, 1000), "minutes r 5 1000"),
    (("kinds", "r", ("bus", "car"), ("bus",)), "kinds r : bus car : bus"),
    (("kinds", "r", (), ("bus",)), "kinds r : : bus"),
    (("kinds", "r", ("always",), ()), "kinds r : always :"),
    (("kinds", "r", (), ()), "kinds r : :"),
    (("hours", "r", None, ((3, 9),)), "hours r : always : 3-9"),
    (("hours", "r", (), None), "hours r : : always"),
    (("hours", "r", ((0, 1), (2, 3), (4, 5), (6, 60)), ()), "hours r : 0-1 2-3 4-5 6-60 :"),
    (("hours", "r", (), ()), "hours r : :"),
    (("bar", "r", "s"), "bar r s"),
    (("unbar", "s", "s"), "unbar s s"),
]

# Lines that have the form of no change.
BAD_LINES = [
    "", " ", "x", "set ann 0", "end", "done", "day 60", "kinds car", "places a b", "r", ":", "Place inn", "PLACE inn",
    # A word too many or too few.
    "place", "place inn pier", "unplace", "unplace inn pier", "road", "road r a b 5", "road r a b : car : always",
    "road r a b 5 6 : car : always", "road r a b c 5 : car : always", "unroad r", "unroad r a b : car : always",
    "unroad r a b 5 6 : car : always", "minutes", "minutes r", "minutes r 5", "minutes r 5 6 7", "minutes 5 6",
    "kinds", "kinds r", "kinds : bus : car", "kinds r s : bus : car", "hours", "hours r", "hours : always : 3-9",
    "hours r s : always : 3-9", "bar", "bar r", "bar r s t", "unbar", "unbar r", "unbar r s t",
    # Two spaces, and a space at an end.
    "place  inn", " place inn", "place inn ", "place ", "minutes r  5 6", "minutes r 5 6 ", " minutes r 5 6",
    "kinds r :  : bus", "kinds r : : ", "kinds r : bus : ", "kinds  r : : bus", "hours r : always :  3-9",
    "hours r :  : always", "hours r : : ", "hours r : always : ", " hours r : : always", "bar r  s", "bar r s ",
    " bar r s", "road r a b 5 :  : always", "road r a b 5 : : ", "road r a b 5 : : always ", "unroad  r a b 5 : :",
    " unroad r a b 5 : :", "unbar r s ", "unplace  a",
    # A colon too many or too few.
    "place : inn", "place inn :", "minutes r : 5 : 6", "minutes r 5 : 6", "kinds r : bus", "kinds r bus : car",
    "kinds r bus car", "kinds r :", "kinds r : bus : car :", "kinds r : : bus : car", ": kinds r : bus : car",
    "kinds : r : bus : car", "kinds r: bus : car", "kinds r : bus :car", "hours r : always", "hours r always : 3-9",
    "hours r always 3-9", "hours r :", "hours r : always : 3-9 :", "hours r : : always : 3-9", "hours : r : : always",
    "bar : r s", "bar r : s", "bar r s :", "unbar : r : s", "road r a b 5 : car always", "road r a b 5 car : always",
    "road r a b 5 : car : always :", "road : r a b 5 : car : always", "unroad r a b 5 :", "unroad r a b 5 : : :",
    # Names that are none.
    "place Inn", "place 1", "place inn-1", "place abcdefghijklm", "unplace A", "unplace _", "minutes R 5 6",
    "minutes 9 5 6", "kinds R : : bus", "kinds r : Bus : car", "kinds r : bus : 9", "kinds r : bus,car : bus",
    "kinds 1 : : bus", "hours R : always : 3-9", "hours 1 : always : 3-9", "bar R s", "bar r S", "bar 1 s", "bar r 1",
    "unbar r -", "road R a b 5 : : always", "road r A b 5 : : always", "road r a B 5 : : always",
    "road r a b 5 : Car : always", "unroad R a b 5 : : always", "unroad r a b 5 : 9 : always",
    # Numbers that are none.
    "minutes r 05 6", "minutes r 5 06", "minutes r 00 6", "minutes r 1234567 6", "minutes r 5 1234567",
    "minutes r -5 6", "minutes r 5 +6", "minutes r x 6", "minutes r 5 six", "minutes r \u0665 6", "minutes r 5 \u00b2",
    "minutes r 1_0 6", "minutes r 5. 6", "road r a b 05 : : always", "road r a b 1234567 : : always",
    "unroad r a b 00 : : always", "unroad r a b 1234567 : :", "unroad r a b x : :",
    # Hours that are none.
    "hours r : always : 03-9", "hours r : always : 3-09", "hours r : 3-1234567 : always", "hours r : 3 : always",
    "hours r : 3- : always", "hours r : -9 : always", "hours r : always : 3-9-12", "hours r : always : 3--9",
    "hours r : always 3-9 : always", "hours r : always : always always", "hours r : Always : 3-9",
    "hours r : always : None", "hours r : always : 3 - 9", "hours r : always : 3-9,", "hours r : never : always",
    "road r a b 5 : : 3", "road r a b 5 : : 3-09", "unroad r a b 5 : : always 3-9", "unroad r a b 5 : : Always",
    # Other signs between the words.
    "place\tinn", "place inn\r", "bar r\ts", "minutes r 5 6\r", "place inn;", "place inn\x0bplace pier",
]


class SlipsTest(AskingTest):
    def assert_line(self, line, parse, text):
        with self.subTest(text=text):
            with self.assertRaises(InvalidNotation) as caught:
                parse(text)
            self.assertEqual(caught.exception.line, line)


class FormatChangesTest(SlipsTest):
    def test_the_line_of_each_change(self):
        for change, line in LINES:
            with self.subTest(change=change):
                self.assertEqual(format_changes([change]), line)

    def test_several_changes(self):
        changes, lines = zip(*LINES)
        self.assertEqual(format_changes(list(changes)), "\n".join(lines))
        self.assertEqual(format_changes(changes), "\n".join(lines))
        self.assertEqual(format_changes([("place", "b"), ("place", "a")]), "place b\nplace a")
        self.assertEqual(format_changes([("place", "a"), ("place", "a")]), "place a\nplace a")

    def test_no_change(self):
        self.assertEqual(format_changes([]), "")
        self.assertEqual(format_changes(()), "")

    def test_nothing_changes(self):
        changes = [change for change, _ in LINES]
        kept = copy.deepcopy(changes)
        self.assertEqual(format_changes(changes), format_changes(changes))
        self.assertEqual(changes, kept)


class ParseChangesTest(SlipsTest):
    def test_example_of_the_interface(self):
        expected = [("place", "inn"), ("hours", "r", None, ((3, 9),))]
        self.assertEqual(parse_changes("place inn\nhours r : always : 3-9"), expected)

    def test_the_line_of_each_change(self):
        for change, line in LINES:
            with self.subTest(line=line):
                self.assertEqual(parse_changes(line), [change])

    def test_several_lines(self):
        changes, lines = zip(*LINES)
        self.assertEqual(parse_changes("\n".join(lines)), list(changes))

    def test_the_empty_text(self):
        self.assertEqual(parse_changes(""), [])

    def test_everything_is_a_tuple(self):
        told = parse_changes("\n".join(line for _, line in LINES))
        self.assertIsInstance(told, list)
        self.assertTrue(all(isinstance(change, tuple) for change in told))
        self.assertNotIn("[", "".join(map(repr, told)))

    def test_changes_that_could_not_be_made_on_any_map(self):
        table = {
            "minutes r 5 5": ("minutes", "r", 5, 5), "minutes r 0 999999": ("minutes", "r", 0, 999999),
            "kinds r : bus bus : foot bus": ("kinds", "r", ("bus", "bus"), ("foot", "bus")),
            "kinds r : a b c d e : a": ("kinds", "r", ("a", "b", "c", "d", "e"), ("a",)),
            "hours r : 9-3 : 5-5 0-999999": ("hours", "r", ((9, 3),), ((5, 5), (0, 999999))),
            "hours r : always : always": ("hours", "r", None, None),
            "hours r : 0-1 2-3 4-5 6-7 8-9 : always": (
                "hours", "r", ((0, 1), (2, 3), (4, 5), (6, 7), (8, 9)), None,
            ),
            "road r a b 0 : foot bus : 9-3 9-3": ("road", ("r", "a", "b", 0, ("foot", "bus"), ((9, 3), (9, 3)))),
            "unroad r a b 999999 : :": ("unroad", ("r", "a", "b", 999999, (), ())),
            "bar place road": ("bar", "place", "road"),
        }
        for line, change in table.items():
            self.assertEqual(parse_changes(line), [change])
        self.assertEqual(len(parse_changes("\n".join(f"place p{number}" for number in range(100)))), 100)
        self.assertEqual(parse_changes("unplace a\nunplace a"), [("unplace", "a")] * 2)

    def test_names_that_are_words_of_the_notation(self):
        changes = [
            ("place", "place"), ("road", ("road", "bar", "set", 1, ("always", "end"), None)),
            ("minutes", "hours", 0, 1), ("kinds", "kinds", ("kinds",), ("always",)), ("hours", "always", None, ()),
            ("bar", "unbar", "bar"),
        ]
        self.assertEqual(parse_changes(format_changes(changes)), changes)

    def test_what_was_written_is_read_back(self):
        found = {}
        for seed in range(200):
            chance = random.Random(seed)
            chart = random_map(seed, places=4, roads=6, bars=3)
            changes = [random_change(chance, chart) for _ in range(chance.randint(0, 9))]
            text = format_changes(changes)
            self.assertEqual(parse_changes(text), changes)
            self.assertEqual(format_changes(parse_changes(text)), text)
            for change in changes:
                found[change[0]] = found.get(change[0], 0) + 1
        self.assertEqual((len(found), min(found.values()) > 20), (9, True), found)

    def test_a_new_list(self):
        parse_changes("place a").append("more")
        self.assertEqual(parse_changes("place a"), [("place", "a")])


class BadChangesTest(SlipsTest):
    def test_alone(self):
        for bad in BAD_LINES:
            if bad != "":
                self.assert_line(1, parse_changes, bad)

    def test_beside_good_lines(self):
        for bad in BAD_LINES:
            self.assert_line(1, parse_changes, bad + "\nplace inn")
            self.assert_line(2, parse_changes, "place inn\n" + bad)
            self.assert_line(3, parse_changes, "place inn\nbar r s\n" + bad + "\nplace pier")

    def test_beside_other_bad_lines(self):
        for bad in BAD_LINES:
            self.assert_line(1, parse_changes, bad + "\nx")
            self.assert_line(2, parse_changes, "place inn\n" + bad + "\nx\n")
            self.assert_line(1, parse_changes, "x\n" + bad)

    def test_empty_lines(self):
        self.assert_line(1, parse_changes, "\n")
        self.assert_line(1, parse_changes, "\n\n")
        self.assert_line(1, parse_changes, "\nplace inn")
        self.assert_line(2, parse_changes, "place inn\n")
        self.assert_line(2, parse_changes, "place inn\n\nplace pier")
        self.assert_line(3, parse_changes, "place inn\nplace pier\n")


def worked_desk():
    """Return a desk with four versions behind the first map."""
    desk = Desk(town())
    desk.hand_in("ann", 0, [("place", "abbey"), ("hours", "lane", None, ((3, 9), (10, 20)))])
    desk.hand_in("bob", 0, [("kinds", "path", (), ("bus", "foot")), ("unbar", "ring", "ring")])
    desk.hand_in("ann", 1, [])
    desk.take_back("eve", 2)
    return desk


JOURNAL = "\n".join([
    "set ann 0", "place abbey", "hours lane : always : 3-9 10-20", "end",
    "set bob 0", "kinds path : : bus foot", "unbar ring ring", "end",
    "set ann 1", "end",
    "set eve 2", "bar ring ring", "kinds path : bus foot :", "end",
])


class FormatJournalTest(SlipsTest):
    def test_no_entries(self):
        self.assertEqual(format_journal(Desk(town())), "")

    def test_entries(self):
        self.assertEqual(format_journal(worked_desk()), JOURNAL)

    def test_the_line_of_each_change(self):
        desk = Desk(town())
        # Any changes may stand in an entry, so they are put there as they are.
        desk.entries.append(Entry("ann", 7, [change for change, _ in LINES]))
        self.assertEqual(format_journal(desk), "\n".join(["set ann 7", *[line for _, line in LINES], "end"]))

    def test_hands_are_written_as_they_are(self):
        for hand in ("", "Ann", "ann b", " ", "9", "ann-marie", "abcdefghijklmn", "\u00e4nn"):
            desk = Desk(town())
            desk.hand_in(hand, 0, [("place", "abbey")])
            text = format_journal(desk)
            self.assertEqual(text, f"set {hand} 0\nplace abbey\nend")
            self.assert_line(1, parse_journal, text)

    def test_the_desk_stays_as_it_is(self):
        desk = worked_desk()
        before = copy.deepcopy([vars(entry) for entry in desk.entries])
        self.assertEqual(format_journal(desk), format_journal(desk))
        self.assertEqual(([vars(entry) for entry in desk.entries], desk.version), (before, 4))


class ParseJournalTest(SlipsTest):
    def rows(self, entries):
        return [(entry.hand, entry.base, entry.changes) for entry in entries]

    def test_the_empty_text(self):
        self.assertEqual(parse_journal(""), [])

    def test_entries(self):
        entries = parse_journal(JOURNAL)
        self.assertIsInstance(entries, list)
        self.assertTrue(all(isinstance(entry, Entry) for entry in entries))
        self.assertEqual(self.rows(entries), self.rows(worked_desk().entries))

    def test_entries_without_changes(self):
        self.assertEqual(self.rows(parse_journal("set ann 0\nend")), [("ann", 0, ())])
        rows = [("ann", 0, ()), ("bob", 999999, ()), ("set", 3, ())]
        self.assertEqual(self.rows(parse_journal("set ann 0\nend\nset bob 999999\nend\nset set 3\nend")), rows)

    def test_changes_belong_to_their_entry(self):
        text = "set a 0\nplace x\nend\nset b 1\nend\nset c 2\nplace y\nplace z\nend"
        rows = [("a", 0, (("place", "x"),)), ("b", 1, ()), ("c", 2, (("place", "y"), ("place", "z")))]
        self.assertEqual(self.rows(parse_journal(text)), rows)

    def test_replayed_entries_make_the_same_maps(self):
        for seed in range(40):
            chance = random.Random(seed)
            desk = Desk(random_map(seed, places=5, roads=7, bars=3))
            for number in range(6):
                hand = chance.choice(["ann", "bob", "e1"])
                desk.hand_in(hand, number, random_set(chance, desk.map_at(number), 4))
            text = format_journal(desk)
            entries = parse_journal(text)
            self.assertEqual(self.rows(entries), self.rows(desk.entries))
            other = replayed(desk.map_at(0), entries)
            maps = [[fields(told.map_at(number)) for number in range(7)] for told in (desk, other)]
            self.assertEqual((maps[0], format_journal(other)), (maps[1], text))

    def test_whether_entries_can_be_taken_is_not_asked(self):
        text = "set ann 9\nunplace nowhere\nminutes r 5 5\nend"
        self.assertEqual(self.rows(parse_journal(text)), [("ann", 9, (("unplace", "nowhere"), ("minutes", "r", 5, 5)))])

    def test_a_new_list(self):
        parse_journal("set ann 0\nend").append("more")
        self.assertEqual(len(parse_journal("set ann 0\nend")), 1)


class BadJournalsTest(SlipsTest):
    def test_the_first_line_of_an_entry(self):
        for bad in (
            "set", "set ann", "set ann 0 1", "set 0", "set ann bob", "set Ann 0", "set 9 0", "set ann-b 0",
            "set  ann 0", "set ann  0", " set ann 0", "set ann 0 ", "set ann 00", "set ann 01", "set ann -1",
            "set ann 1234567", "set ann x", "Set ann 0", "sets ann 0", "set ann : 0", "set abcdefghijklm 0",
            "set ann \u0663", "x", " ",
        ):
            self.assert_line(1, parse_journal, bad)
            self.assert_line(1, parse_journal, bad + "\nend")
            self.assert_line(3, parse_journal, "set ann 0\nend\n" + bad + "\nend")
            self.assert_line(3, parse_journal, "set ann 0\nend\n" + bad)
            self.assert_line(3, parse_journal, "set ann 0\nend\n" + bad + "\nx")

    def test_a_change_outside_of_a_set(self):
        for _, line in LINES:
            self.assert_line(1, parse_journal, line)
            self.assert_line(1, parse_journal, line + "\nset ann 0\nend")
            self.assert_line(3, parse_journal, "set ann 0\nend\n" + line)
            self.assert_line(4, parse_journal, "set ann 0\nplace a\nend\n" + line + "\nset ann 1\nend")

    def test_a_set_within_a_set(self):
        self.assert_line(2, parse_journal, "set ann 0\nset bob 0\nend")
        self.assert_line(3, parse_journal, "set ann 0\nplace a\nset bob 0\nend")
        self.assert_line(2, parse_journal, "set ann 0\nset ann 0\nend\nend")
        self.assert_line(4, parse_journal, "set ann 0\nend\nset ann 1\nset ann 1")

    def test_an_end_without_a_set(self):
        self.assert_line(1, parse_journal, "end")
        self.assert_line(1, parse_journal, "end\nset ann 0\nend")
        self.assert_line(3, parse_journal, "set ann 0\nend\nend")
        self.assert_line(4, parse_journal, "set ann 0\nplace a\nend\nend\nx")

    def test_an_end_of_another_form(self):
        for bad in ("end ", " end", "End", "end end", "ends", "end ann", "done", "end :", "end\r"):
            self.assert_line(2, parse_journal, "set ann 0\n" + bad)
            self.assert_line(3, parse_journal, "set ann 0\nplace a\n" + bad + "\nend")

    def test_a_missing_end(self):
        self.assert_line(2, parse_journal, "set ann 0")
        self.assert_line(3, parse_journal, "set ann 0\nplace a")
        self.assert_line(4, parse_journal, "set ann 0\nend\nset bob 1")
        self.assert_line(6, parse_journal, "set ann 0\nend\nset bob 1\nplace a\nplace b")

    def test_a_bad_line_comes_ahead_of_a_missing_end(self):
        self.assert_line(2, parse_journal, "set ann 0\nx")
        self.assert_line(2, parse_journal, "set ann 0\nx\nplace a")
        self.assert_line(2, parse_journal, "set ann 0\n")

    def test_bad_changes(self):
        for bad in BAD_LINES:
            if bad != "end":
                self.assert_line(2, parse_journal, "set ann 0\n" + bad + "\nend")
                self.assert_line(3, parse_journal, "set ann 0\nplace a\n" + bad + "\nplace b\nx\nend")

    def test_empty_lines(self):
        self.assert_line(1, parse_journal, "\n")
        self.assert_line(1, parse_journal, "\nset ann 0\nend")
        self.assert_line(2, parse_journal, "set ann 0\n\nend")
        self.assert_line(3, parse_journal, "set ann 0\nend\n")
        self.assert_line(3, parse_journal, "set ann 0\nend\n\nset bob 1\nend")


class MadeAgainTest(SlipsTest):
    def test_a_set_that_was_read_back_leads_to_the_same_map(self):
        for seed in range(60):
            chart = random_map(seed, places=4, roads=6, bars=3)
            changes = random_set(random.Random(seed), chart, 8)
            told = parse_changes(format_changes(changes))
            self.assertEqual(fields(applied(chart, told)), fields(applied(chart, changes)))


if __name__ == "__main__":
    unittest.main()
