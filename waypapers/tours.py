"""Tours: routes that pass several stops."""

from waypapers.errors import InvalidQuestion
from waypapers.maps import END
from waypapers.search import ARRIVAL, PASSED, earliest_of, place_of, route_to, search
from waypapers.travel import check_names

MOST_STOPS = 6


class Tour:
    """A tour with its arrival, and its stops in the order in which it passes them first."""

    def __init__(self, roads, arrival, order):
        self.roads = tuple(roads)
        self.arrival = arrival
        self.order = tuple(order)


def tour(chart, kind, start, stops, moment, *, goal=None):
    """Return the Tour with the earliest arrival, or None if there is none."""
    _check_question(chart, kind, start, stops, goal)
    marks = {stop: 1 << number for number, stop in enumerate(stops)}
    came = search(chart, kind, start, moment, marks)
    ends = [state for state in came if state[PASSED] == sum(list(marks.values()))]
    if goal is not None:
        ends = [state for state in ends if place_of(chart, start, state) == goal]
    last = earliest_of(came, ends)
    if last is None:
        return None
    roads = route_to(came, last)
    return Tour(roads, came[last][ARRIVAL], _order(chart, start, stops, roads))


def _check_question(chart, kind, start, stops, goal):
    """Raise the errors of a question for a tour."""
    goals = [] if goal is None else [goal]
    check_names(chart, kind, [start, *stops, *goals], [])
    if len(stops) > MOST_STOPS:
        raise InvalidQuestion(f"more than {MOST_STOPS} stops: {len(stops)}")
    if len(set(stops)) < len(stops):
        raise InvalidQuestion("a stop stands twice")


def _order(chart, start, stops, roads):
    """Return the stops in the order in which a route passes them first."""
    order = []
    for place in [start, *[chart.road(name)[END] for name in roads]]:
        if place in stops and place not in order:
            order.append(place)
    return order
