"""Desks, which keep the versions of a map."""

from waypapers.errors import Conflict, UnknownVersion
from waypapers.sets import applied, clashes, taken_back, touched


class Entry:
    """A set of changes that was handed in: by whom, on which version it was made, and its changes."""

    def __init__(self, hand, base, changes):
        self.hand = hand
        self.base = base
        self.changes = tuple(changes)


class Desk:
    """All versions of a map, and the entries that made them."""

    def __init__(self, chart):
        self.entries = []
        self._maps = [chart]

    @property
    def version(self):
        """The number of the newest version."""
        return len(self._maps) - 1

    def map_at(self, number):
        """Return the map of a version."""
        self._check_version(number)
        return self._maps[number]

    def _check_version(self, number):
        """Raise UnknownVersion if there is no version with this number."""
        if not 0 <= number <= self.version:
            raise UnknownVersion(number)

    def entry(self, number):
        """Return the entry that made a version."""
        self._check_version(number)
        # The first map was not made by an entry.
        if number == 0:
            raise UnknownVersion(number)
        return self.entries[number - 1]

    def conflicts(self, base, changes):
        """Return the things that the changes clash about with the sets taken behind the base."""
        self._check_version(base)
        taken = [change for entry in self.entries[base:] for change in entry.changes]
        return clashes(changes, taken)

    def hand_in(self, hand, base, changes):
        """Take a set that was made on the map of its base, and return the number of the new version."""
        applied(self.map_at(base), changes)
        things = self.conflicts(base, changes)
        if things != []:
            raise Conflict(things)
        newest = applied(self._maps[-1], changes)
        self.entries.append(Entry(hand, base, changes))
        self._maps.append(newest)
        return self.version

    def take_back(self, hand, number):
        """Take back the set of a version, and return the number of the new version."""
        return self.hand_in(hand, number, taken_back(self.entry(number).changes))

    def hands(self):
        """Return the hands of the entries, each once, in the order of their first entries."""
        return list({entry.hand: True for entry in self.entries})

    def touched_by(self, thing):
        """Return the versions whose sets touch the thing."""
        return [number for number, entry in enumerate(self.entries, start=1) if thing in touched(entry.changes)]

    def before(self, thing, number):
        """Return the greatest version up to this one whose set touches the thing, or 0."""
        self._check_version(number)
        return max([version for version in self.touched_by(thing) if version <= number], default=0)


def replayed(chart, entries):
    """Return a new desk with a first map, to which the sets of the entries are handed in."""
    desk = Desk(chart)
    for entry in entries:
        desk.hand_in(entry.hand, entry.base, entry.changes)
    return desk


def merged(chart, sets):
    """Return the map behind several sets that were all made on one map."""
    desk = Desk(chart)
    for changes in sets:
        desk.hand_in("", 0, changes)
    return desk.map_at(desk.version)
