"""Earliest arrivals, and routes that arrive then."""

from waypapers.maps import END
from waypapers.search import ARRIVAL, ROAD, earliest_of, place_of, route_to, search
from waypapers.travel import NO_ROAD, check_names


class Route:
    """A route with its arrival."""

    def __init__(self, roads, arrival):
        self.roads = tuple(roads)
        self.arrival = arrival


def labels(chart, kind, start, moment):
    """Return the tuples (road, arrival) of the earliest arrivals over all roads that can be come to."""
    check_names(chart, kind, [start], [])
    came = search(chart, kind, start, moment, {})
    return sorted([(state[ROAD], came[state][ARRIVAL]) for state in came if state[ROAD] != NO_ROAD])


def places_from(chart, kind, start, moment):
    """Return the tuples (place, arrival) of the earliest arrivals at all places that can be come to."""
    # No road leads back to the start as early as the trip is there already.
    arrivals = {start: moment}
    for name, arrival in labels(chart, kind, start, moment):
        end = chart.road(name)[END]
        arrivals[end] = min(arrival, arrivals.get(end, arrival))
    return sorted([(place, arrivals[place]) for place in arrivals])


def earliest(chart, kind, start, goal, moment):
    """Return a Route that arrives at the goal at the earliest arrival, or None if the goal cannot be come to."""
    check_names(chart, kind, [start, goal], [])
    came = search(chart, kind, start, moment, {})
    last = earliest_of(came, [state for state in came if place_of(chart, start, state) == goal])
    if last is None:
        return None
    return Route(route_to(came, last), came[last][ARRIVAL])
