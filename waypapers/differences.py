"""Differences of two maps, and merged maps."""

from waypapers.errors import Conflict, InvalidQuestion
from waypapers.maps import END, HOURS, KINDS, MINUTES, NAME, START, Map


def difference(old, new):
    """Return the changes that lead from the old map to the new one."""
    _check_alike([old, new])
    roads = _kept_roads(old, new)
    bars = [bar for bar in old.bars if bar in new.bars and bar[0] in roads and bar[1] in roads]
    changes = [("unbar", *bar) for bar in old.bars if bar not in bars]
    changes.extend([("unroad", road) for road in old.roads if road[NAME] not in roads])
    changes.extend([("unplace", place) for place in old.places if place not in new.places])
    changes.extend([("place", place) for place in new.places if place not in old.places])
    changes.extend([("road", road) for road in new.roads if road[NAME] not in roads])
    for name in roads:
        changes.extend(_other_parts(old.road(name), new.road(name)))
    changes.extend([("bar", *bar) for bar in new.bars if bar not in bars])
    return changes


def _check_alike(charts):
    """Raise InvalidQuestion if the maps have not the same day and the same kinds."""
    first = charts[0]
    for chart in charts:
        if chart.day != first.day or chart.kinds != first.kinds:
            raise InvalidQuestion("the maps have other days or other kinds")


def _kept_roads(old, new):
    """Return the names of the roads that both maps have and that are not moved."""
    both = [name for name in old.road_names if name in new.road_names]
    return [name for name in both if _ends(old, name) == _ends(new, name)]


def _ends(chart, name):
    """Return the start and the end of a road."""
    road = chart.road(name)
    return (road[START], road[END])


def _other_parts(before, after):
    """Return the changes that lead from a road to one with other minutes, kinds and hours."""
    parts = [("minutes", MINUTES), ("kinds", KINDS), ("hours", HOURS)]
    return [(word, before[NAME], before[at], after[at]) for word, at in parts if before[at] != after[at]]


def conflicts(base, one, other):
    """Return the things about which two maps that were made of a base cannot be merged."""
    _check_alike([base, one, other])
    things = _clashes(_things(base), _things(one), _things(other))
    if things != []:
        return things
    return _misfits(_merged_things(base, one, other))


def merged_maps(base, one, other):
    """Return the map with what two maps that were made of a base changed."""
    things = conflicts(base, one, other)
    if things != []:
        raise Conflict(things)
    told = _merged_things(base, one, other)
    return Map(
        day=base.day,
        kinds=base.kinds,
        places=[thing[1] for thing in told if thing[0] == "place"],
        roads=[told[thing] for thing in told if thing[0] == "road"],
        bars=[thing[1:] for thing in told if thing[0] == "bar"],
    )


def _things(chart):
    """Return a dict of the things that a map has, each with what the map tells of it."""
    told = {}
    for place in chart.places:
        told[("place", place)] = True
    for road in chart.roads:
        told[("road", road[NAME])] = road
    for first, second in chart.bars:
        told[("bar", first, second)] = True
    return told


def _clashes(before, mine, theirs):
    """Return the things that both maps changed and of which they do not tell the same."""
    things = []
    for thing in sorted(set([*before, *mine, *theirs])):
        both_changed = mine.get(thing) != before.get(thing) and theirs.get(thing) != before.get(thing)
        if both_changed and mine.get(thing) != theirs.get(thing):
            things.append(thing)
    return things


def _merged_things(base, one, other):
    """Return a dict of the things of the merged parts of maps that do not clash, each with what they tell of it."""
    before = _things(base)
    mine = _things(one)
    theirs = _things(other)
    merged = {}
    for thing in [*before, *mine, *theirs]:
        told = mine.get(thing)
        if told == before.get(thing):
            told = theirs.get(thing)
        if told is not None:
            merged[thing] = told
    return merged


def _misfits(told):
    """Return the bars and roads of the merged parts that do not fit together."""
    bars = [thing for thing in told if thing[0] == "bar" and not _bar_fits(told, thing)]
    roads = [thing for thing in told if thing[0] == "road" and not _road_fits(told, thing)]
    return sorted(bars + roads)


def _bar_fits(told, thing):
    """Tell whether the roads of a bar are there and touch."""
    first = told.get(("road", thing[1]))
    second = told.get(("road", thing[2]))
    return first is not None and second is not None and first[END] == second[START]


def _road_fits(told, thing):
    """Tell whether the start and the end of a road are there."""
    road = told[thing]
    return ("place", road[START]) in told and ("place", road[END]) in told
