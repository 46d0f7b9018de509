"""Meetings and relays of several trips."""

from waypapers.routes import earliest, places_from


class Meeting:
    """A place and a moment at which all of some trips are there, with the Routes that lead them there."""

    def __init__(self, place, moment, routes):
        self.place = place
        self.moment = moment
        self.routes = tuple(routes)


class Relay:
    """Where and when one trip hands something to another one, with the three Routes on which it comes to a goal."""

    def __init__(self, place, handed, routes):
        self.place = place
        self.handed = handed
        self.routes = tuple(routes)
        self.arrival = self.routes[-1].arrival


def meeting(chart, trips):
    """Return the Meeting of the trips, or None if there is no place at which all of them can be."""
    rows = _common_places(chart, trips)
    if rows == []:
        return None
    # Of several rows with the least moment this is the first one, and the rows stand in the order of the places.
    place, moment = min(rows, key=lambda row: row[1])
    return Meeting(place, moment, [_route_to(chart, trip, place) for trip in trips])


def meeting_places(chart, trips, *, until):
    """Return the tuples (place, moment) of all places at which all trips can be by a moment."""
    return [(place, moment) for place, moment in _common_places(chart, trips) if moment <= until]


def relay(chart, one, other, goal):
    """Return the Relay of two trips that arrives at the goal at first, or None if there is no way."""
    rows = _common_places(chart, [one, other])
    chart.check_place(goal)
    best = None
    for place, handed in rows:
        last = earliest(chart, other[0], place, goal, handed)
        if last is not None and (best is None or last.arrival < best.arrival):
            best = Relay(place, handed, [_route_to(chart, one, place), _route_to(chart, other, place), last])
    return best


def _common_places(chart, trips):
    """Return the tuples (place, moment) of all places at which all trips can be, with the least moments."""
    arrivals = [dict(places_from(chart, kind, start, moment)) for kind, start, moment in trips]
    rows = []
    for place in chart.places:
        there = [row[place] for row in arrivals if place in row]
        if len(there) == len(trips):
            rows.append((place, max(there, default=0)))
    return rows


def _route_to(chart, trip, place):
    """Return the Route of a trip to a place."""
    kind, start, moment = trip
    return earliest(chart, kind, start, place, moment)
