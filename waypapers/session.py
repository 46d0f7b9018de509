"""Sessions, which keep desks under names and are used by lines of text."""

from waypapers.commands import is_command, split_words
from waypapers.desk import Desk
from waypapers.errors import Conflict, InvalidMap, InvalidNotation, InvalidSet, UnknownName, UnknownVersion
from waypapers.notation import format_map, parse_map
from waypapers.routes import earliest
from waypapers.slips import journal_lines, parse_changes


class Session:
    """Desks under names, and a block of lines, if one is begun and not done yet."""

    def __init__(self):
        self._desks = {}
        # The words of the command that began the block, none outside of blocks, and the lines that the block took.
        self._head = []
        self._lines = []

    def run(self, text):
        """Do the lines of a text in order, and return all lines that they answer."""
        answers = []
        for number, line in enumerate(text.split("\n"), start=1):
            words = split_words(line)
            if words != []:
                answers.extend(self._answers(words, number))
        return answers

    def _answers(self, words, number):
        """Return the lines that a line with these words and this number answers."""
        if self._head != [] and words != ["done"]:
            self._lines.append(" ".join(words))
            return []
        if self._head == [] and not is_command(words):
            return [f"line {number}: invalid command"]
        try:
            return self._end_block() if self._head != [] else self._do_command(words)
        except UnknownName as unknown:
            why = f"unknown name {unknown.name}"
        except UnknownVersion as missing:
            why = f"unknown version {missing.number}"
        except InvalidNotation as malformed:
            why = f"invalid notation {malformed.line}"
        except InvalidMap:
            why = "invalid map"
        except InvalidSet as wrong:
            why = f"invalid set {wrong.number}"
        except Conflict as clash:
            why = f"conflict {_things_in_words(clash.things)}"
        return [f"line {number}: {why}"]

    def _end_block(self):
        """Close the block, and return the lines that its end answers."""
        head = self._head
        # The block is closed ahead of everything that may raise an error: an error closes it, too.
        self._head = []
        text = "\n".join(self._lines)
        if head[0] == "map":
            self._desks[head[1]] = Desk(parse_map(text))
            return ["ok"]
        _, name, hand, base = head
        version = self._desk(name).hand_in(hand, int(base), parse_changes(text))
        return [f"version {version}"]

    def _do_command(self, words):
        """Do a command, and return the lines that it answers."""
        match words:
            case ["map", _]:
                return self._begin_block(words)
            case ["set", name, _, base]:
                self._desk(name).map_at(int(base))
                return self._begin_block(words)
            case ["back", name, hand, version]:
                taken = self._desk(name).take_back(hand, int(version))
                return [f"version {taken}"]
            case ["print", name, version]:
                return format_map(self._desk(name).map_at(int(version))).split("\n")
            case ["journal", name]:
                return journal_lines(self._desk(name))
            case ["version", name]:
                return [f"version {self._desk(name).version}"]
            case ["route", name, version, kind, start, goal, moment]:
                route = earliest(self._desk(name).map_at(int(version)), kind, start, goal, int(moment))
                return ["no route" if route is None else f"arrives {route.arrival}"]
        return [" ".join(["maps:", *sorted(self._desks)])]

    def _begin_block(self, words):
        """Begin the block of a command, and return the lines that the command answers."""
        self._head = words
        self._lines = []
        return ["ok"]

    def _desk(self, name):
        """Return the desk of this name."""
        if name not in self._desks:
            raise UnknownName(name)
        return self._desks[name]


def _things_in_words(things):
    """Return the words of all things in one line."""
    return ", ".join([" ".join(thing) for thing in things])
