"""Maps: places, kinds of vehicles, one-way roads with opening hours, and barred turns."""

from waypapers.errors import InvalidMap, UnknownName

LETTERS = "abcdefghijklmnopqrstuvwxyz"
DIGITS = "0123456789"

LONGEST_NAME = 12
LONGEST_DAY = 1440
MOST_PLACES = 30
MOST_KINDS = 4
MOST_ROADS = 60
MOST_MINUTES = 1000
MOST_PAIRS = 4
MOST_BARS = 40

# Where the parts of a road stand in its tuple.
NAME = 0
START = 1
END = 2
MINUTES = 3
KINDS = 4
HOURS = 5
PARTS = 6


def is_name(text):
    """Tell whether a string is a name."""
    if not 1 <= len(text) <= LONGEST_NAME or text[0] not in LETTERS:
        return False
    return all(sign in LETTERS or sign in DIGITS for sign in text)


def _checked_day(day):
    """Return the number of minutes of a day, if a day may have so many."""
    if not 1 <= day <= LONGEST_DAY:
        raise InvalidMap(f"a day has no {day} minutes")
    return day


def _checked_names(names, least, most):
    """Return the names of one sort as a map keeps them."""
    if not least <= len(names) <= most:
        raise InvalidMap(f"not from {least} to {most} names: {len(names)}")
    for name in names:
        if not is_name(name):
            raise InvalidMap(f"not a name: {name}")
    _check_different(names)
    return tuple(sorted(names))


def _check_different(parts):
    """Raise InvalidMap if a part stands twice."""
    if len(set(parts)) < len(parts):
        raise InvalidMap("a part stands twice")


def _checked_roads(roads, day, places, kinds):
    """Return the roads as a map with this day and these places and kinds keeps them."""
    for road in roads:
        if len(road) != PARTS:
            raise InvalidMap(f"a road has not {PARTS} parts")
    _checked_names([road[NAME] for road in roads], 0, MOST_ROADS)
    kept = [_checked_road(road, day, places, kinds) for road in roads]
    # All names are different, so the order of the tuples is the order of their names.
    return tuple(sorted(kept))


def _checked_road(road, day, places, kinds):
    """Return a road with six parts and a name as a map keeps it."""
    name, start, end, minutes, users, hours = road
    if start not in places or end not in places:
        raise InvalidMap(f"the road {name} does not lead from a place to a place")
    if not 1 <= minutes <= MOST_MINUTES:
        raise InvalidMap(f"the road {name} cannot take {minutes} minutes")
    for kind in users:
        if kind not in kinds:
            raise InvalidMap(f"the road {name} is for a strange kind: {kind}")
    _check_different(users)
    return (name, start, end, minutes, tuple(sorted(users)), _checked_hours(hours, day))


def _checked_hours(hours, day):
    """Return the hours of a road as a map with this day keeps them."""
    if hours is None:
        return None
    if len(hours) > MOST_PAIRS:
        raise InvalidMap(f"hours have more than {MOST_PAIRS} pairs")
    # The first pair may open at 0, so what lies ahead of it closes before that.
    closed = -1
    for pair in hours:
        if len(pair) != 2:
            raise InvalidMap("a pair of hours has not two parts")
        if not closed < pair[0] < pair[1] <= day:
            raise InvalidMap("a pair of hours cannot stand where it stands")
        closed = pair[1]
    return tuple([tuple(pair) for pair in hours])


def _checked_bars(bars, roads_by_name):
    """Return the bars as a map with these roads keeps them."""
    if len(bars) > MOST_BARS:
        raise InvalidMap(f"a map has more than {MOST_BARS} bars")
    for bar in bars:
        if len(bar) != 2:
            raise InvalidMap("a bar has not two parts")
        first, second = bar
        if first not in roads_by_name or second not in roads_by_name:
            raise InvalidMap(f"a bar of strange roads: {first} {second}")
        if roads_by_name[first][END] != roads_by_name[second][START]:
            raise InvalidMap(f"a bar of roads that do not touch: {first} {second}")
    kept = [tuple(bar) for bar in bars]
    _check_different(kept)
    return tuple(sorted(kept))


class Map:
    """A map. It does not change: what would change it returns another map."""

    def __init__(self, *, day, kinds, places=(), roads=(), bars=()):
        self.day = _checked_day(day)
        self.kinds = _checked_names(kinds, 1, MOST_KINDS)
        self.places = _checked_names(places, 0, MOST_PLACES)
        self.roads = _checked_roads(roads, day, self.places, self.kinds)
        self._roads_by_name = {road[NAME]: road for road in self.roads}
        self.bars = _checked_bars(bars, self._roads_by_name)
        self._barred = {bar: True for bar in self.bars}

    @property
    def road_names(self):
        """The names of the roads, in ascending order."""
        return tuple([road[NAME] for road in self.roads])

    def road(self, name):
        """Return the tuple of the road with this name."""
        self.check_road(name)
        return self._roads_by_name[name]

    def check_road(self, name):
        """Raise UnknownName if the map does not have a road with this name."""
        if name not in self._roads_by_name:
            raise UnknownName(name)

    def check_place(self, place):
        """Raise UnknownName if the map does not have the place."""
        if place not in self.places:
            raise UnknownName(place)

    def check_kind(self, kind):
        """Raise UnknownName if the map does not have the kind of vehicles."""
        if kind not in self.kinds:
            raise UnknownName(kind)

    def roads_from(self, place):
        """Return the names of the roads that start at the place."""
        self.check_place(place)
        return [road[NAME] for road in self.roads if road[START] == place]

    def roads_to(self, place):
        """Return the names of the roads that end at the place."""
        self.check_place(place)
        return [road[NAME] for road in self.roads if road[END] == place]

    def is_barred(self, first, second):
        """Tell whether the second road may not be entered directly behind the first one."""
        self.check_road(first)
        self.check_road(second)
        return (first, second) in self._barred

    def may_follow(self, first, second):
        """Tell whether the second road can be entered directly behind the first one."""
        touch = self.road(first)[END] == self.road(second)[START]
        return touch and not self.is_barred(first, second)

    def followers(self, name):
        """Return the names of the roads that may follow the road."""
        end = self.road(name)[END]
        return [other for other in self.roads_from(end) if (name, other) not in self._barred]

    def may_use(self, kind, name):
        """Tell whether the kind of vehicles may use the road."""
        self.check_kind(kind)
        return kind in self.road(name)[KINDS]

    def with_road(self, road):
        """Return the map with this road, in the place of the one with the same name."""
        others = [other for other in self.roads if other[NAME] != road[NAME]]
        return self._with_parts(self.places, [*others, road], self.bars)

    def without_road(self, name):
        """Return the map without this road and without the bars that name it."""
        self.check_road(name)
        roads = [road for road in self.roads if road[NAME] != name]
        bars = [bar for bar in self.bars if name not in bar]
        return self._with_parts(self.places, roads, bars)

    def with_hours(self, name, hours):
        """Return the map with these hours of the road."""
        return self.with_road(self.road(name)[:HOURS] + (hours,))

    def with_place(self, place):
        """Return the map with a further place."""
        return self._with_parts([*self.places, place], self.roads, self.bars)

    def without_place(self, place):
        """Return the map without this place, at which no road may start or end."""
        self.check_place(place)
        places = [other for other in self.places if other != place]
        return self._with_parts(places, self.roads, self.bars)

    def with_bar(self, first, second):
        """Return the map with a further bar."""
        self.check_road(first)
        self.check_road(second)
        return self._with_parts(self.places, self.roads, [*self.bars, (first, second)])

    def without_bar(self, first, second):
        """Return the map without this bar."""
        if not self.is_barred(first, second):
            raise InvalidMap(f"there is no bar to remove: {first} {second}")
        bars = [bar for bar in self.bars if bar != (first, second)]
        return self._with_parts(self.places, self.roads, bars)

    def _with_parts(self, places, roads, bars):
        """Return a map with the same day and kinds, and with these parts."""
        return Map(day=self.day, kinds=self.kinds, places=places, roads=roads, bars=bars)
