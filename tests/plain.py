"""Random maps, and plain searches by the words of the document, with which the answers of the program are compared.

Nothing here asks the program for more than the fields of a map.
"""

import itertools
import random

from waypapers.maps import Map

START, END, MINUTES, KINDS, HOURS = 1, 2, 3, 4, 5


def random_hours(chance, day):
    """Return hours: none, without pairs, of the whole day, or of some pairs."""
    sort = chance.randrange(10)
    if sort < 4:
        return None
    if sort == 4:
        return []
    if sort == 5:
        return [(0, day)]
    borders = sorted(chance.sample(range(day + 1), 2 * chance.randint(1, 4)))
    return list(zip(borders[::2], borders[1::2]))


def random_map(seed, *, places=4, roads=8, bars=3, day=60, minutes=40):
    """Return a map with places p0, p1 .., roads r0, r1 .. and the kinds bus and car."""
    chance = random.Random(seed)
    names = [f"p{number}" for number in range(places)]
    rows = []
    for number in range(roads):
        users = [kind for kind in ("car", "bus") if chance.random() < 0.85]
        ends = (chance.choice(names), chance.choice(names))
        rows.append((f"r{number}", *ends, chance.randint(1, minutes), users, random_hours(chance, day)))
    pairs = [(one[0], other[0]) for one in rows for other in rows if one[END] == other[START]]
    barred = chance.sample(pairs, min(bars, len(pairs)))
    return Map(day=day, kinds=["car", "bus"], places=names, roads=rows, bars=barred)


def full_map(seed):
    """Return a map with as many places, roads and bars as a map can have."""
    return random_map(seed, places=30, roads=60, bars=40, day=1440, minutes=300)


def roads_by_name(chart):
    return {road[0]: road for road in chart.roads}


def is_open(hours, minute):
    return hours is None or any(opens <= minute < closes for opens, closes in hours)


def is_usable(chart, kind, name):
    """Tell whether the kind can ever enter the road."""
    road = roads_by_name(chart)[name]
    return kind in road[KINDS] and any(is_open(road[HOURS], minute) for minute in range(chart.day))


def arrival_over(chart, name, moment):
    """Return the arrival over a road that is open at some moment, found minute by minute."""
    road = roads_by_name(chart)[name]
    while not is_open(road[HOURS], moment % chart.day):
        moment += 1
    return moment + road[MINUTES]


def next_roads(chart, kind, start):
    """Return for each road, and for None at the start, the usable roads that can be driven next."""
    roads = roads_by_name(chart)
    usable = [name for name in roads if is_usable(chart, kind, name)]
    behind = {None: [name for name in usable if roads[name][START] == start]}
    for last in roads:
        touching = [name for name in usable if roads[name][START] == roads[last][END]]
        behind[last] = [name for name in touching if (last, name) not in chart.bars]
    return behind


def least_arrivals(chart, kind, start, moment, stops=()):
    """Return the least arrivals over the roads, for each set of stops that are passed.

    It goes on from road to road until nothing gets earlier.
    """
    roads = roads_by_name(chart)
    behind = next_roads(chart, kind, start)
    found = {(None, frozenset({start}) & frozenset(stops)): moment}
    changed = True
    while changed:
        changed = False
        for (last, passed), now in list(found.items()):
            for name in behind[last]:
                state = (name, passed | (frozenset({roads[name][END]}) & frozenset(stops)))
                arrival = arrival_over(chart, name, now)
                if arrival < found.get(state, arrival + 1):
                    found[state] = arrival
                    changed = True
    return found


def least_labels(chart, kind, start, moment):
    """Return a dict of the least arrivals over the roads that can be come to."""
    found = least_arrivals(chart, kind, start, moment)
    return {name: arrival for (name, _), arrival in found.items() if name is not None}


def least_places(chart, kind, start, moment):
    """Return a dict of the least arrivals at the places that can be come to."""
    roads = roads_by_name(chart)
    places = {}
    for name, arrival in least_labels(chart, kind, start, moment).items():
        end = roads[name][END]
        places[end] = min(arrival, places.get(end, arrival))
    places[start] = moment
    return places


def routes_up_to(chart, kind, start, most):
    """Return all routes with at most so many roads that a trip from the start can drive."""
    behind = next_roads(chart, kind, start)
    routes = [()]
    row = [()]
    for _ in range(most):
        row = [(*route, name) for route in row for name in behind[route[-1] if route else None]]
        routes += row
    return routes


def arrival_of(chart, route, moment):
    """Return the arrival of a trip that drives a route that it can drive."""
    for name in route:
        moment = arrival_over(chart, name, moment)
    return moment


def can_drive(chart, kind, start, route):
    """Tell whether a trip can drive a route."""
    behind = next_roads(chart, kind, start)
    return all(name in behind[last] for last, name in zip([None, *route], route))


def has_way(chart, kind, start, goal, without=()):
    """Tell whether there is a way without some roads."""
    roads = roads_by_name(chart)
    behind = next_roads(chart, kind, start)
    met = {None}
    while True:
        more = {name for last in met for name in behind[last] if name not in without} - met
        if not more:
            return any(last is not None and roads[last][END] == goal for last in met)
        met |= more


def least_cut(chart, kind, start, goal):
    """Return the number of roads of the least cut among all sets of roads."""
    usable = [name for name in roads_by_name(chart) if is_usable(chart, kind, name)]
    for many in range(len(usable) + 1):
        if any(not has_way(chart, kind, start, goal, cut) for cut in itertools.combinations(usable, many)):
            return many
    raise AssertionError("without any road there is no way")
