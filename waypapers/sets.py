"""Sets of changes of a map."""

from waypapers.errors import InvalidMap, InvalidSet, UnknownName
from waypapers.maps import END, HOURS, KINDS, MINUTES, NAME, PARTS, START

# The word of the change that takes back one with this word.
OPPOSITES = {
    "place": "unplace",
    "unplace": "place",
    "road": "unroad",
    "unroad": "road",
    "bar": "unbar",
    "unbar": "bar",
}


def applied(chart, changes):
    """Return the map behind the changes, made one after another."""
    behind = chart
    for number, change in enumerate(changes):
        try:
            behind = _behind_change(behind, change)
        except (InvalidMap, UnknownName):
            raise InvalidSet(number) from None
    return behind


def _behind_change(chart, change):
    """Return the map behind a change. Raise InvalidMap or UnknownName if it cannot be made."""
    match change:
        case ("place", place):
            return chart.with_place(place)
        case ("unplace", place):
            return chart.without_place(place)
        case ("road", road):
            return _with_new_road(chart, road)
        case ("unroad", road):
            return _without_whole_road(chart, road)
        case ("minutes", name, before, after):
            return _with_part(chart, name, MINUTES, before, after)
        case ("kinds", name, before, after):
            return _with_part(chart, name, KINDS, before, after)
        case ("hours", name, before, after):
            return _with_part(chart, name, HOURS, before, after)
        case ("bar", first, second):
            return chart.with_bar(first, second)
        case ("unbar", first, second):
            return chart.without_bar(first, second)
    raise InvalidMap("there is no change of this form")


def _with_new_road(chart, road):
    """Return the map with a road that it does not have."""
    if len(road) != PARTS or road[NAME] in chart.road_names:
        raise InvalidMap("a road with this name cannot be added")
    return _with_written_road(chart, road)


def _without_whole_road(chart, road):
    """Return the map without a road, which is given with all its parts and stands in no bar."""
    if road not in chart.roads:
        raise InvalidMap("there is no such road to remove")
    if any(road[NAME] in bar for bar in chart.bars):
        raise InvalidMap(f"the road {road[NAME]} stands in a bar")
    return chart.without_road(road[NAME])


def _with_part(chart, name, part, before, after):
    """Return the map with another part of a road."""
    road = chart.road(name)
    if road[part] != before or after == before:
        raise InvalidMap(f"the road {name} cannot be changed from this to that")
    return _with_written_road(chart, road[:part] + (after,) + road[part + 1:])


def _with_written_road(chart, road):
    """Return the map with a road that is written just as the map keeps it."""
    behind = chart.with_road(road)
    if road not in behind.roads:
        raise InvalidMap(f"the road {road[NAME]} is not written as a map keeps it")
    return behind


def taken_back(changes):
    """Return the changes that take back the changes."""
    return [_opposite(change) for change in reversed(changes)]


def _opposite(change):
    """Return the change that takes back a change."""
    if change[0] in OPPOSITES:
        return (OPPOSITES[change[0]], *change[1:])
    word, name, before, after = change
    return (word, name, after, before)


def touched(changes):
    """Return the things that the changes touch."""
    return sorted({_touched_thing(change) for change in changes})


def _touched_thing(change):
    """Return the thing that a change touches."""
    if change[0] in ("place", "unplace"):
        return ("place", change[1])
    if change[0] in ("road", "unroad"):
        return ("road", change[1][NAME])
    if change[0] in ("bar", "unbar"):
        return ("bar", change[1], change[2])
    return ("road", change[1])


def leaned_on(changes):
    """Return the things that the changes lean on."""
    return sorted({thing for change in changes for thing in _things_below(change)})


def _things_below(change):
    """Return the things that a change leans on."""
    if change[0] in ("road", "unroad"):
        return [("place", change[1][START]), ("place", change[1][END])]
    if change[0] in ("bar", "unbar"):
        return [("road", change[1]), ("road", change[2])]
    return []


def clashes(changes, others):
    """Return the things that two sets of changes clash about."""
    return sorted(set(_touched_beside(changes, others) + _touched_beside(others, changes)))


def _touched_beside(changes, others):
    """Return the things that the changes touch, and the others touch or lean on."""
    beside = touched(others) + leaned_on(others)
    return [thing for thing in touched(changes) if thing in beside]


def are_apart(changes, others):
    """Tell whether two sets of changes clash about nothing."""
    return clashes(changes, others) == []
