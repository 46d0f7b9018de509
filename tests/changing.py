"""Random changes, and changes made by the words of points 55, 56 and 59."""

from plain import random_hours
from waypapers.errors import InvalidMap
from waypapers.maps import Map

NUMBERS = {"minutes": 3, "kinds": 4, "hours": 5}


def behind_change(chart, change):
    """Return the map behind a change, or None if it cannot be made."""
    places, roads, bars = list(chart.places), list(chart.roads), list(chart.bars)
    names = {road[0]: road for road in roads}
    word = change[0]
    if word == "place":
        if change[1] in places:
            return None
        places.append(change[1])
    elif word == "unplace":
        if change[1] not in places or any(change[1] in road[1:3] for road in roads):
            return None
        places.remove(change[1])
    elif word == "road":
        if change[1][0] in names:
            return None
        roads.append(change[1])
    elif word == "unroad":
        if change[1] not in roads or any(change[1][0] in bar for bar in bars):
            return None
        roads.remove(change[1])
    elif word == "bar":
        if change[1:] in bars:
            return None
        bars.append(change[1:])
    elif word == "unbar":
        if change[1:] not in bars:
            return None
        bars.remove(change[1:])
    else:
        _, name, before, after = change
        if name not in names or names[name][NUMBERS[word]] != before or before == after:
            return None
        road = list(names[name])
        road[NUMBERS[word]] = after
        roads[roads.index(names[name])] = tuple(road)
    try:
        behind = Map(day=chart.day, kinds=chart.kinds, places=places, roads=roads, bars=bars)
    except InvalidMap:
        return None
    # The map has to keep the parts as they are written.
    if (sorted(places), sorted(bars)) != (list(behind.places), list(behind.bars)):
        return None
    return behind if all(road in behind.roads for road in roads) else None


def touched_thing(change):
    if change[0] in ("place", "unplace"):
        return ("place", change[1])
    if change[0] in ("bar", "unbar"):
        return ("bar", *change[1:])
    return ("road", change[1][0] if change[0] in ("road", "unroad") else change[1])


def things_below(change):
    if change[0] in ("road", "unroad"):
        return [("place", place) for place in change[1][1:3]]
    if change[0] in ("bar", "unbar"):
        return [("road", name) for name in change[1:]]
    return []


def things_of_clash(changes, others):
    """Return the things that two sets clash about, by the words of point 60."""
    mine, theirs = {touched_thing(change) for change in changes}, {touched_thing(change) for change in others}
    below = {thing for change in changes for thing in things_below(change)}
    below_theirs = {thing for change in others for thing in things_below(change)}
    return sorted((mine & theirs) | (mine & below_theirs) | (theirs & below))


def random_change(chance, chart):
    """Return a change that can mostly be made on the map."""
    word = chance.choice(["place", "unplace", "road", "unroad", "minutes", "kinds", "hours", "bar", "unbar"])
    places = [*chart.places, "p9"]
    if word == "place":
        return (word, f"p{chance.randrange(10)}")
    if word == "unplace":
        return (word, chance.choice(places))
    if word == "road":
        kinds = tuple(kind for kind in chart.kinds if chance.random() < 0.7)
        ends = (chance.choice(places), chance.choice(places))
        return (word, (f"r{chance.randrange(12)}", *ends, chance.randint(1, 9), kinds, hours_of(chance, chart)))
    if not chart.roads:
        return ("unroad", ("r0", "p0", "p0", 1, (), None))
    road = chance.choice(chart.roads)
    if word == "unroad":
        return (word, road)
    if word == "minutes":
        return (word, road[0], road[3] + (chance.random() < 0.1), chance.randint(0, 9))
    if word == "kinds":
        return (word, road[0], road[4], chance.choice([(), ("bus",), ("car",), ("bus", "car"), ("car", "bus")]))
    if word == "hours":
        return (word, road[0], road[5], hours_of(chance, chart))
    if word == "unbar" and chart.bars and chance.random() < 0.9:
        return (word, *chance.choice(chart.bars))
    behind = [other for other in chart.roads if other[1] == road[2]]
    return (word, road[0], chance.choice(behind or chart.roads)[0])


def hours_of(chance, chart):
    hours = random_hours(chance, chart.day)
    return None if hours is None else tuple(hours)


def random_set(chance, chart, most):
    """Return some changes that can be made one after another on the map."""
    changes = []
    for _ in range(chance.randint(0, most)):
        change = random_change(chance, chart)
        behind = behind_change(chart, change)
        if behind is not None:
            changes.append(change)
            chart = behind
    return changes
