"""Commands: points 68 and 69, and the interface of waypapers/commands.py."""

import copy
import unittest

from waypapers.commands import is_command, split_words

# A command of each sort, and of each of its words what it has to be.
COMMANDS = {
    "map m": ["word", "name"],
    "set m ann 0": ["word", "name", "name", "number"],
    "back m ann 1": ["word", "name", "name", "number"],
    "print m 0": ["word", "name", "number"],
    "journal m": ["word", "name"],
    "version m": ["word", "name"],
    "route m 0 bus a b 12": ["word", "name", "number", "name", "name", "name", "number"],
    "maps": ["word"],
}

NO_NAMES = ["0", "12", "Inn", "9a", "a-b", "abcdefghijklm", "INN", ":", "_", "\u00e4", "a\tb", "\tb", "b\r"]
NO_NUMBERS = ["x", "-1", "+1", "00", "01", "1234567", "0000001", "1.0", "\u0663", "\u00b2", "1_0", "one", "1\t", "0x1"]


class SplitWordsTest(unittest.TestCase):
    def test_words(self):
        table = {
            "": [], " ": [], "    ": [], "a": ["a"], " a": ["a"], "a ": ["a"], "  a  ": ["a"], "a b": ["a", "b"],
            "a  b": ["a", "b"], "   a    b   c  ": ["a", "b", "c"], "set m ann 0": ["set", "m", "ann", "0"],
            "Any thing: at-all!": ["Any", "thing:", "at-all!"], "a : b": ["a", ":", "b"],
        }
        for line, words in table.items():
            with self.subTest(line=line):
                self.assertEqual(split_words(line), words)

    def test_only_spaces_separate(self):
        for sign in ("\t", "\r", "\x0b", "\x0c", "\x1c", "\x85", "\u00a0", "\u2003", ",", ";"):
            self.assertEqual(split_words(f"a{sign}b"), [f"a{sign}b"])
            self.assertEqual(split_words(f" {sign}  a"), [sign, "a"])

    def test_a_new_list(self):
        split_words("a b").append("more")
        self.assertEqual(split_words("a b"), ["a", "b"])


class IsCommandTest(unittest.TestCase):
    def assert_commands(self, expected, *rows):
        for words in rows:
            with self.subTest(words=words):
                kept = copy.copy(words)
                self.assertIs(is_command(words), expected)
                self.assertEqual(words, kept)

    def test_each_command(self):
        self.assert_commands(True, *[line.split(" ") for line in COMMANDS])

    def test_a_word_too_many_or_too_few(self):
        for line in COMMANDS:
            words = line.split(" ")
            for more in ("a", "0", ":", "m"):
                self.assert_commands(False, [*words, more])
                for at in range(1, len(words)):
                    self.assert_commands(False, [*words[:at], more, *words[at:]])
            for at in range(1, len(words)):
                self.assert_commands(False, words[:at], words[:at] + words[at + 1:])

    def test_names_of_a_wrong_form(self):
        for line, forms in COMMANDS.items():
            words = line.split(" ")
            for at, form in enumerate(forms):
                for bad in NO_NAMES if form == "name" else []:
                    self.assert_commands(False, [*words[:at], bad, *words[at + 1:]])

    def test_numbers_of_a_wrong_form(self):
        for line, forms in COMMANDS.items():
            words = line.split(" ")
            for at, form in enumerate(forms):
                for bad in NO_NUMBERS if form == "number" else []:
                    self.assert_commands(False, [*words[:at], bad, *words[at + 1:]])
                for good in ("0", "9", "10", "100000", "999999") if form == "number" else []:
                    self.assert_commands(True, [*words[:at], good, *words[at + 1:]])

    def test_words_of_commands_as_names(self):
        self.assert_commands(
            True, ["map", "map"], ["map", "done"], ["set", "set", "set", "0"], ["back", "map", "back", "1"],
            ["print", "print", "0"], ["journal", "maps"], ["version", "version"],
            ["route", "route", "0", "map", "set", "back", "1"], ["map", "a23456789012"],
        )

    def test_other_words(self):
        self.assert_commands(
            False, ["done"], ["end"], ["x"], ["x", "m"], ["Map", "m"], ["MAPS"], ["maps:"], [":"], ["0"], ["m"],
            ["m", "map"], ["set"], ["place", "inn"], ["day", "60"], ["undo"], ["redo"], ["map", ""], [" map", "m"],
            ["name"], ["number"], ["name", "name"], ["help"], ["versions", "m"], ["routes", "m"], ["name", "m", "0"],
        )


if __name__ == "__main__":
    unittest.main()
