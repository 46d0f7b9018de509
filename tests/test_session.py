"""Sessions: points 68 to 72, and the interface of waypapers/session.py."""

import random
import unittest

from changing import random_set
from plain import least_places, random_map
from samples import fields, town
from waypapers.desk import Desk
from waypapers.maps import Map
from waypapers.notation import format_map
from waypapers.session import Session
from waypapers.slips import format_changes, format_journal

MAP = "map m\nday 60\nkinds bus\nplaces a b c\nroad r a b 5 : bus : 10-20\nroad s b c 1 : bus : always\nbar r s\ndone"
WRITTEN = MAP.split("\n")[1:-1]


def begun():
    """Return a session with a desk m of one version."""
    session = Session()
    session.run(MAP)
    return session


def worked():
    """Return a session with a desk m of four versions."""
    session = begun()
    session.run("set m ann 0\nminutes r 5 8\ndone\nset m bob 0\nplace d\ndone\nset m ann 1\nunbar r s\ndone")
    return session


class SessionTest(unittest.TestCase):
    def assert_answers(self, session, text, *lines):
        with self.subTest(text=text):
            answers = session.run(text)
            self.assertIsInstance(answers, list)
            self.assertEqual(answers, list(lines))

    def assert_as_before(self, session, other):
        """Look whether two sessions answer the same, first of all that no block is open."""
        for text in (
            "maps\nversion m\njournal m\nversion n",
            "\n".join(f"print m {number}" for number in range(6)),
            "route m 0 bus a c 0\nroute m 3 bus a c 0",
        ):
            self.assertEqual(session.run(text), other.run(text))


class ExampleTest(SessionTest):
    def test_example_of_the_interface(self):
        self.assert_answers(
            Session(),
            "map m\nday 60\nkinds bus\nplaces a b\nroad r a b 5 : bus : 10-20\ndone\nroute m 0 bus a b 12\n"
            "set m ann 0\nminutes r 5 8\ndone\nroute m 1 bus a b 30",
            "ok", "ok", "arrives 17", "ok", "version 1", "arrives 78",
        )


class LinesTest(SessionTest):
    def test_lines_without_words_are_skipped(self):
        session = Session()
        for text in ("", " ", "\n", "\n\n\n", "  \n   \n "):
            self.assert_answers(session, text)
        self.assert_answers(session, "\n\nmaps\n\n", "maps:")

    def test_lines_without_words_have_a_number(self):
        self.assert_answers(Session(), "\n   \nx\n\ny\n", "line 3: invalid command", "line 5: invalid command")
        self.assert_answers(begun(), "\nset m ann 0\n\n  \nx\n\ndone", "ok", "line 7: invalid notation 1")

    def test_words_between_several_spaces_and_at_the_ends(self):
        session = Session()
        self.assert_answers(
            session, "  map   m \n day   60\nkinds bus \n  places  a b   c\n road r  a b 5 :  bus : 10-20\n"
            "road s b c 1  :  bus :   always \n bar  r s\n  done  ", "ok", "ok",
        )
        self.assert_answers(session, "   print  m   0  ", *WRITTEN)
        text = " route m   0 bus  a b 12 \n  maps  \nversion    m"
        self.assert_answers(session, text, "arrives 17", "maps: m", "version 0")
        self.assert_answers(session, "set  m ann   0\n  minutes   r 5 8\n unbar  r   s \n   done", "ok", "version 1")
        self.assert_answers(session, " journal   m ", "set ann 0", "minutes r 5 8", "unbar r s", "end")

    def test_only_spaces_separate_words(self):
        for text in ("maps\t", "\tmaps", "maps\r", "version\tm", "\t", "\r", "print m 0\x0b"):
            self.assert_answers(begun(), text, "line 1: invalid command")
        self.assert_answers(begun(), "maps\r\nmaps", "line 1: invalid command", "maps: m")
        session = begun()
        self.assert_answers(session, "set m ann 0\ndone\t\ndone\r\ndone", "ok", "line 4: invalid notation 1")

    def test_numbers_are_counted_in_each_call(self):
        session = Session()
        self.assert_answers(session, "x\nmaps\ny", "line 1: invalid command", "maps:", "line 3: invalid command")
        self.assert_answers(session, "x", "line 1: invalid command")
        self.assert_answers(session, "maps\nversion m", "maps:", "line 2: unknown name m")

    def test_a_new_list(self):
        session = begun()
        session.run("print m 0").append("more")
        self.assert_answers(session, "print m 0", *WRITTEN)
        session.run("maps").clear()
        self.assert_answers(session, "maps", "maps: m")


class InvalidCommandTest(SessionTest):
    def test_lines_that_are_no_commands(self):
        for line in (
            "done", "end", "x", "map", "map m n", "map M", "map 1", "set m ann", "set m ann 0 1", "set m ann x",
            "set m Ann 0", "set M ann 0", "set m ann 00", "back m ann", "back m 1 1", "back m ann 01", "print m",
            "print m x", "print 0 m", "print m 0 0", "journal", "journal m 0", "version", "version m 0", "version 0",
            "route m 0 bus a b", "route m 0 bus a b 1 2", "route m x bus a b 1", "route m 0 bus a b -1",
            "route m 0 Bus a b 1", "route m 0 bus a b 1234567", "maps m", "Maps", "place d", "day 60", "maps:", ":",
            "minutes r 5 8", "print m 1234567",
        ):
            session = worked()
            self.assert_answers(session, line, "line 1: invalid command")
            self.assert_as_before(session, worked())

    def test_the_words_alone_decide(self):
        # There is no desk of these names, but the line is looked at first.
        self.assert_answers(Session(), "version M\nprint n 00\nversion n", *[
            "line 1: invalid command", "line 2: invalid command", "line 3: unknown name n",
        ])

    def test_lines_behind_are_done(self):
        self.assert_answers(
            Session(), "x\n" + MAP + "\ny\nversion m\ndone", "line 1: invalid command", "ok", "ok",
            "line 10: invalid command", "version 0", "line 12: invalid command",
        )

    def test_words_of_commands_as_names(self):
        session = Session()
        text = MAP.replace("map m", "map map") + "\nset map set 0\nplace done\ndone\nback map back 1\nversion map\nmaps"
        self.assert_answers(session, text, "ok", "ok", "ok", "version 1", "version 2", "version 2", "maps: map")
        self.assert_answers(session, "journal map", *[
            "set set 0", "place done", "end", "set back 1", "unplace done", "end",
        ])
        self.assert_answers(session, "map done\n" + "\n".join(WRITTEN) + "\ndone\nmaps", "ok", "ok", "maps: done map")


class MapBlockTest(SessionTest):
    def test_a_desk(self):
        self.assert_answers(Session(), MAP, "ok", "ok")
        self.assert_answers(begun(), "print m 0\nversion m\njournal m", *WRITTEN, "version 0")

    def test_maps_of_every_form(self):
        charts = [town(), Map(day=1, kinds=["car"]), *[random_map(seed) for seed in range(10)]]
        for chart in charts:
            session = Session()
            self.assert_answers(session, f"map m\n{format_map(chart)}\ndone", "ok", "ok")
            self.assert_answers(session, "print m 0", *format_map(chart).split("\n"))

    def test_a_block_in_several_calls(self):
        lines = MAP.split("\n")
        for cut in range(1, len(lines)):
            session = Session()
            answers = session.run("\n".join(lines[:cut])) + session.run("\n".join(lines[cut:]))
            self.assertEqual(answers, ["ok", "ok"])
            self.assert_answers(session, "print m 0", *WRITTEN)
        session = Session()
        self.assertEqual([answer for line in lines for answer in session.run(line)], ["ok", "ok"])
        self.assert_answers(session, "print m 0", *WRITTEN)

    def test_lines_of_a_block_answer_nothing(self):
        session = Session()
        self.assert_answers(session, "map m", "ok")
        self.assert_answers(session, "maps\nx\nversion m\nmap n\nset m ann 0\nprint m 0\n\ndone x\nx done\nDone\nend")
        self.assert_answers(session, "done", "line 1: invalid notation 1")
        self.assert_answers(session, "maps", "maps:")

    def test_lines_that_look_like_commands(self):
        # In a block the line `maps` is a line of the map, and one that cannot stand there.
        self.assert_answers(Session(), "map m\nday 60\nmaps\ndone\nmaps", "ok", "line 4: invalid notation 2", "maps:")

    def test_there_is_no_desk_ahead_of_the_end(self):
        session = Session()
        session.run("map m\nday 60\nkinds bus")
        self.assert_answers(session, "places a\ndone\nmaps\nversion m", "ok", "maps: m", "version 0")

    def test_lines_without_words_are_not_taken(self):
        session = Session()
        text = "map m\n\nday 60\n   \nkinds bus\n\nplaces\n\ndone\nprint m 0"
        self.assert_answers(session, text, "ok", "ok", "day 60", "kinds bus", "places")

    def test_invalid_notation(self):
        # The second number counts the lines that were taken.
        for text, number, line in (
            ("map m\ndone", 2, 1),
            ("map m\n\n  \ndone", 4, 1),
            ("map m\nday 60\ndone", 3, 2),
            ("map m\nday 60\nkinds bus\ndone", 4, 3),
            ("map m\n\nday 60\n\nkinds Bus\nplaces\ndone", 7, 2),
            ("map m\nday 60\nkinds bus\nplaces\nroad r\ndone", 6, 4),
        ):
            session = begun()
            self.assert_answers(session, text, "ok", f"line {number}: invalid notation {line}")
            self.assert_as_before(session, begun())
            self.assert_answers(Session(), text + "\nmaps", "ok", f"line {number}: invalid notation {line}", "maps:")

    def test_invalid_map(self):
        for text in (
            "day 0\nkinds bus\nplaces", "day 60\nkinds\nplaces", "day 60\nkinds bus\nplaces a a",
            "day 60\nkinds bus\nplaces a\nroad r a b 5 : : always", "day 60\nkinds bus\nplaces\nbar r r",
        ):
            lines = ["map m", *text.split("\n"), "done"]
            answer = f"line {len(lines)}: invalid map"
            session = worked()
            self.assert_answers(session, "\n".join([*lines, "maps"]), "ok", answer, "maps: m")
            self.assert_as_before(session, worked())
            self.assert_answers(Session(), "\n".join([*lines, "maps", "version m"]), *[
                "ok", answer, "maps:", f"line {len(lines) + 2}: unknown name m",
            ])

    def test_a_second_map_of_a_name(self):
        session = worked()
        other = "map m\nday 9\nkinds car\nplaces z\ndone"
        self.assert_answers(session, other + "\nversion m\njournal m\nprint m 0\nprint m 1", *[
            "ok", "ok", "version 0", "day 9", "kinds car", "places z", "line 9: unknown version 1",
        ])
        self.assert_answers(session, "maps", "maps: m")

    def test_the_first_map_stays_until_the_end_of_the_second_one(self):
        session = worked()
        text = "map m\nday 9\nx\ndone\nversion m"
        self.assert_answers(session, text, "ok", "line 4: invalid notation 2", "version 3")


class SetBlockTest(SessionTest):
    def test_a_set(self):
        session = begun()
        self.assert_answers(session, "set m ann 0\nminutes r 5 8\nplace d\ndone", "ok", "version 1")
        self.assert_answers(session, "journal m", "set ann 0", "minutes r 5 8", "place d", "end")
        self.assert_answers(session, "print m 0", *WRITTEN)
        self.assert_answers(session, "print m 1", *[
            "day 60", "kinds bus", "places a b c d", "road r a b 8 : bus : 10-20", *WRITTEN[4:],
        ])

    def test_a_set_without_changes(self):
        self.assert_answers(begun(), "set m ann 0\ndone\nset m bob 0\n\n  \ndone\njournal m", *[
            "ok", "version 1", "ok", "version 2", "set ann 0", "end", "set bob 0", "end",
        ])

    def test_a_block_in_several_calls(self):
        lines = ["set m ann 0", "minutes r 5 8", "", "place d", " done "]
        for cut in range(1, len(lines)):
            session = begun()
            answers = session.run("\n".join(lines[:cut])) + session.run("\n".join(lines[cut:]))
            self.assertEqual(answers, ["ok", "version 1"])
            self.assert_answers(session, "journal m", "set ann 0", "minutes r 5 8", "place d", "end")

    def test_no_block_is_opened_without_a_desk_or_a_version(self):
        session = begun()
        self.assert_answers(session, "set n ann 0\nplace d\ndone\nmaps", *[
            "line 1: unknown name n", "line 2: invalid command", "line 3: invalid command", "maps: m",
        ])
        for base in (1, 2, 999999):
            self.assert_answers(session, f"maps\nset m ann {base}\nversion m\ndone", *[
                "maps: m", f"line 2: unknown version {base}", "version 0", "line 4: invalid command",
            ])
        self.assert_answers(session, "set n ann 7", "line 1: unknown name n")
        self.assert_as_before(session, begun())

    def test_lines_that_look_like_commands(self):
        session = begun()
        self.assert_answers(session, "set m ann 0\nmaps\nset m ann 0\nback m ann 1\ndone x\nmap n", "ok")
        self.assert_answers(session, "done", "line 1: invalid notation 1")
        self.assert_as_before(session, begun())

    def assert_errors(self, *rows):
        for text, answer in rows:
            session = worked()
            number = text.count("\n") + 2
            self.assert_answers(session, text + "\ndone\nmaps", "ok", f"line {number}: {answer}", "maps: m")
            self.assert_as_before(session, worked())

    def test_errors_of_the_end(self):
        self.assert_errors(
            ("set m ann 3\nplace e\nx", "invalid notation 2"),
            ("set m ann 3\nplace e\n\nminutes r 8 08\nx", "invalid notation 2"),
            ("set m ann 3\nend", "invalid notation 1"),
            ("set m ann 3\nplace e\nplace e", "invalid set 1"),
            ("set m ann 3\nplace a", "invalid set 0"),
            ("set m ann 3\n\nunplace d\n\n\nminutes r 5 8", "invalid set 1"),
            ("set m ann 0\nminutes r 5 9", "conflict road r"),
            ("set m ann 0\nhours r : 10-20 : always\nplace d\nunbar r s", "conflict bar r s, place d, road r"),
            ("set m ann 0\nplace d", "conflict place d"),
            ("set m ann 2\nunbar r s\nplace e", "conflict bar r s"),
        )

    def test_the_order_of_the_errors(self):
        # The form comes first, then whether the set can be made on the map of its base, then what it clashes with.
        self.assert_errors(
            ("set m ann 0\nplace a\nplace d\nx", "invalid notation 3"),
            ("set m ann 0\nplace d\nplace a", "invalid set 1"),
            ("set m ann 0\nminutes r 6 7", "invalid set 0"),
        )

    def test_the_block_is_closed_behind_an_error(self):
        session = worked()
        text = "set m ann 0\nplace d\ndone\nset m ann 3\nplace e\ndone\nversion m"
        self.assert_answers(session, text, "ok", "line 3: conflict place d", "ok", "version 4", "version 4")
        self.assert_answers(session, "done", "line 1: invalid command")

    def test_no_line_of_an_earlier_block_is_taken(self):
        session = begun()
        self.assert_answers(session, "set m ann 0\nx\ndone\nset m ann 0\nplace d\ndone", *[
            "ok", "line 3: invalid notation 1", "ok", "version 1",
        ])
        self.assert_answers(session, "set m ann 1\ndone\njournal m", *[
            "ok", "version 2", "set ann 0", "place d", "end", "set ann 1", "end",
        ])

    def test_too_much(self):
        places = " ".join(f"p{number}" for number in range(29))
        session = Session()
        session.run(f"map m\nday 60\nkinds bus\nplaces {places}\ndone\nset m ann 0\nplace a\ndone")
        text = "set m bob 0\nplace b\ndone\nversion m"
        self.assert_answers(session, text, "ok", "line 3: invalid set 0", "version 1")


class OtherCommandsTest(SessionTest):
    def test_back(self):
        session = worked()
        self.assert_answers(session, "back m eve 2\nback m eve 4\nversion m", "version 4", "version 5", "version 5")
        self.assertEqual(session.run("journal m")[-6:], [
            "set eve 2", "unplace d", "end", "set eve 4", "place d", "end",
        ])
        self.assert_answers(session, "back m eve 3\nback m eve 1", "version 6", "line 2: conflict road r")

    def test_errors_of_back(self):
        for line, answer in (
            ("back n eve 1", "unknown name n"), ("back n eve 0", "unknown name n"),
            ("back m eve 0", "unknown version 0"), ("back m eve 4", "unknown version 4"),
            ("back m eve 999999", "unknown version 999999"),
        ):
            session = worked()
            self.assert_answers(session, "\n" + line + "\nmaps", f"line 2: {answer}", "maps: m")
            self.assert_as_before(session, worked())
        session = worked()
        session.run("set m bob 3\nroad t d d 1 : : always\ndone\nset m bob 3\nminutes r 8 9\ndone")
        self.assert_answers(session, "back m eve 2\nback m eve 1\nversion m", *[
            "line 1: conflict place d", "line 2: conflict road r", "version 5",
        ])
        places = " ".join(f"p{number}" for number in range(30))
        session.run(f"map n\nday 60\nkinds bus\nplaces {places}\ndone")
        session.run("set n ann 0\nunplace p7\ndone\nset n ann 1\nplace more\ndone")
        self.assert_answers(session, "back n eve 1\nversion n", "line 1: invalid set 0", "version 2")

    def test_version(self):
        self.assert_answers(begun(), "version m\nversion n", "version 0", "line 2: unknown name n")
        self.assert_answers(worked(), "version m", "version 3")

    def test_print(self):
        session = worked()
        self.assert_answers(session, "print m 0", *WRITTEN)
        self.assert_answers(session, "print m 3", *[
            "day 60", "kinds bus", "places a b c d", "road r a b 8 : bus : 10-20", "road s b c 1 : bus : always",
        ])
        self.assert_answers(session, "print m 4\nprint n 0\nprint n 9\nprint m 999999", *[
            "line 1: unknown version 4", "line 2: unknown name n", "line 3: unknown name n",
            "line 4: unknown version 999999",
        ])

    def test_journal(self):
        self.assert_answers(begun(), "journal m")
        self.assert_answers(begun(), "journal m\njournal n\nmaps", "line 2: unknown name n", "maps: m")
        self.assert_answers(worked(), "journal m", *[
            "set ann 0", "minutes r 5 8", "end", "set bob 0", "place d", "end", "set ann 1", "unbar r s", "end",
        ])

    def test_route(self):
        session = worked()
        self.assert_answers(session, "route m 0 bus a b 12\nroute m 1 bus a b 12\nroute m 0 bus a b 20", *[
            "arrives 17", "arrives 20", "arrives 75",
        ])
        # The bar of the first map is gone in the newest one.
        self.assert_answers(session, "route m 0 bus a c 0\nroute m 3 bus a c 0", "no route", "arrives 19")
        self.assert_answers(session, "route m 0 bus c a 0\nroute m 0 bus a a 7", "no route", "arrives 7")
        self.assert_answers(session, "route m 0 bus a b 999999", "arrives 1000035")

    def test_errors_of_route(self):
        self.assert_answers(worked(), "\n".join([
            "route n 9 car x y 0", "route m 9 car x y 0", "route m 3 car x y 0", "route m 3 bus x y 0",
            "route m 3 bus a y 0", "route m 1 bus a d 0", "route m 2 bus a d 0",
        ]), *[
            "line 1: unknown name n", "line 2: unknown version 9", "line 3: unknown name car", "line 4: unknown name x",
            "line 5: unknown name y", "line 6: unknown name d", "no route",
        ])

    def test_maps(self):
        session = Session()
        self.assert_answers(session, "maps", "maps:")
        for name in ("m", "b", "a9", "ab"):
            session.run(MAP.replace("map m", f"map {name}"))
        self.assert_answers(session, "maps", "maps: a9 ab b m")
        session.run(MAP)
        self.assert_answers(session, "maps", "maps: a9 ab b m")

    def test_desks_of_a_session_are_apart(self):
        session = begun()
        session.run(MAP.replace("map m", "map n"))
        self.assert_answers(session, "set m ann 0\nplace d\ndone\nversion m\nversion n\njournal n", *[
            "ok", "version 1", "version 1", "version 0",
        ])
        self.assert_answers(session, "set n ann 0\nplace d\ndone\nset n ann 1\ndone\nversion m", *[
            "ok", "version 1", "ok", "version 2", "version 1",
        ])

    def test_sessions_share_nothing(self):
        one, other = Session(), Session()
        one.run(MAP)
        self.assert_answers(other, "maps\nversion m", "maps:", "line 2: unknown name m")
        other.run(MAP)
        self.assert_answers(one, "set m ann 0", "ok")
        # A block is open in the one session only.
        self.assert_answers(other, "version m\ndone", "version 0", "line 2: invalid command")
        self.assert_answers(one, "place d\ndone\nversion m", "version 1", "version 1")
        self.assert_answers(other, "version m\nprint m 0", "version 0", *WRITTEN)


class RandomSessionsTest(SessionTest):
    def test_random_sessions(self):
        for seed in range(30):
            chance = random.Random(seed)
            chart = random_map(seed, places=5, roads=8, bars=3)
            session, desk = Session(), Desk(chart)
            session.run(f"map m\n{format_map(chart)}\ndone")
            for number in range(6):
                changes = random_set(chance, desk.map_at(number), 4)
                desk.hand_in("ann", number, changes)
                text = f"set m ann {number}\n{format_changes(changes)}\ndone"
                self.assert_answers(session, text, "ok", f"version {number + 1}")
            for number in range(7):
                behind = desk.map_at(number)
                self.assert_answers(session, f"print m {number}", *format_map(behind).split("\n"))
                self.assert_routes(session, number, behind, seed)
            expected = format_journal(desk)
            self.assert_answers(session, "journal m", *(expected.split("\n") if expected else []))
            self.assertEqual(fields(desk.map_at(0)), fields(chart))

    def assert_routes(self, session, number, chart, moment):
        start = chart.places[0]
        arrivals = least_places(chart, "bus", start, moment)
        for goal in chart.places:
            answer = f"arrives {arrivals[goal]}" if goal in arrivals else "no route"
            self.assert_answers(session, f"route m {number} bus {start} {goal} {moment}", answer)


if __name__ == "__main__":
    unittest.main()
