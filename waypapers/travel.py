"""Travel: entering roads and driving routes."""

from waypapers.errors import InvalidRoute
from waypapers.maps import HOURS, MINUTES, START

# Stands for the road ahead of the first one of a route: no road has this name.
NO_ROAD = ""


def enter(chart, name, moment):
    """Return the first moment, not ahead of this one, at which the road may be entered, or None."""
    hours = chart.road(name)[HOURS]
    if hours is None:
        return moment
    if hours == ():
        return None
    minute = moment % chart.day
    midnight = moment - minute
    for opens, closes in hours:
        if minute < closes:
            return midnight + max(minute, opens)
    return midnight + chart.day + hours[0][0]


def last_entry(chart, name, moment):
    """Return the last moment, not behind this one, at which the road may be entered, or None."""
    hours = chart.road(name)[HOURS]
    if hours is None:
        return moment
    minute = moment % chart.day
    midnight = moment - minute
    for opens, closes in reversed(hours):
        if opens <= minute:
            return midnight + min(minute, closes - 1)
    # Moments begin at 0, so the first day has no day before it.
    if hours == () or midnight == 0:
        return None
    return midnight - chart.day + hours[-1][1] - 1


def arrive(chart, name, moment):
    """Return the arrival over the road of somebody who is at its start at the moment, or None."""
    entered = enter(chart, name, moment)
    if entered is None:
        return None
    return entered + chart.road(name)[MINUTES]


def check_names(chart, kind, places, roads):
    """Raise UnknownName for the first one of these names that the map does not have."""
    chart.check_kind(kind)
    for place in places:
        chart.check_place(place)
    for name in roads:
        chart.check_road(name)


def can_ever_enter(chart, kind, name):
    """Tell whether the kind may use the road and the road is open at some moment."""
    return chart.may_use(kind, name) and chart.road(name)[HOURS] != ()


def turns(chart, kind, start):
    """Return, for NO_ROAD and for each road, the roads that a trip from the start can drive directly behind it."""
    behind = road_turns(chart, kind)
    behind[NO_ROAD] = [name for name in chart.roads_from(start) if can_ever_enter(chart, kind, name)]
    return behind


def road_turns(chart, kind):
    """Return, for each road, the roads that the kind can drive directly behind it."""
    usable = {name: can_ever_enter(chart, kind, name) for name in chart.road_names}
    return {last: [name for name in chart.followers(last) if usable[name]] for last in chart.road_names}


def run(chart, kind, route, start, moment):
    """Return the tuples (road, entered, arrival) of a trip that drives the route."""
    check_names(chart, kind, [start], route)
    driven = []
    now = moment
    for number, name in enumerate(route):
        if not _can_go_on(chart, kind, route, start, number):
            raise InvalidRoute(number)
        entered = enter(chart, name, now)
        now = arrive(chart, name, entered)
        driven.append((name, entered, now))
    return driven


def _can_go_on(chart, kind, route, start, number):
    """Tell whether the trip can drive the road with this number behind those ahead of it."""
    name = route[number]
    if not can_ever_enter(chart, kind, name):
        return False
    if number == 0:
        return chart.road(name)[START] == start
    return chart.may_follow(route[number - 1], name)


def waiting(chart, kind, route, start, moment):
    """Return the minutes that the trip spends waiting along the route."""
    waited = 0
    there = moment
    for _, entered, arrival in run(chart, kind, route, start, moment):
        waited += entered - there
        there = arrival
    return waited
