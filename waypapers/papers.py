"""Papers, from which a small checker sees that no route arrives earlier, or that there is none."""

from waypapers.errors import InvalidRoute
from waypapers.maps import END
from waypapers.routes import earliest, labels
from waypapers.travel import NO_ROAD, arrive, check_names, run, turns


class Paper:
    """A route with its arrival, both None if there is no route, and the labels that bound the trips."""

    def __init__(self, roads, arrival, lows):
        self.roads = None if roads is None else tuple(roads)
        self.arrival = arrival
        self.lows = [tuple(label) for label in lows]


def paper(chart, kind, start, goal, moment):
    """Return the Paper of the earliest arrival at the goal."""
    route = earliest(chart, kind, start, goal, moment)
    lows = labels(chart, kind, start, moment)
    if route is None:
        return Paper(None, None, lows)
    return Paper(route.roads, route.arrival, lows)


def check_paper(chart, kind, start, goal, moment, told):
    """Tell whether a Paper is right, without a search."""
    _check_paper_names(chart, kind, start, goal, told)
    if start == goal:
        return told.roads == () and told.arrival == moment
    numbers = least_numbers(told.lows)
    if not are_low_enough(chart, kind, start, moment, numbers, None):
        return False
    ends = [numbers[name] for name in chart.roads_to(goal) if name in numbers]
    if told.roads is None or told.arrival is None:
        return told.roads is None and told.arrival is None and ends == []
    if not _arrives(chart, kind, start, goal, moment, told):
        return False
    return all(number >= told.arrival for number in ends)


def _check_paper_names(chart, kind, start, goal, told):
    """Raise UnknownName for the first name of a question with a Paper that the map does not have."""
    roads = [] if told.roads is None else told.roads
    check_names(chart, kind, [start, goal], [*roads, *[name for name, _ in told.lows]])


def least_numbers(lows):
    """Return the number of each road that has a label, the least one that the labels tell."""
    numbers = {}
    for name, number in lows:
        numbers[name] = min(number, numbers.get(name, number))
    return numbers


def are_low_enough(chart, kind, start, moment, numbers, until):
    """Tell whether the numbers of roads show that no trip arrives earlier over a road.

    Arrivals behind the moment `until` need no numbers, unless it is None.
    """
    behind = turns(chart, kind, start)
    moments = {**numbers, NO_ROAD: moment}
    for last in moments:
        for name in behind[last]:
            arrival = arrive(chart, name, moments[last])
            asked = until is None or arrival <= until
            if asked and (name not in numbers or numbers[name] > arrival):
                return False
    return True


def _arrives(chart, kind, start, goal, moment, told):
    """Tell whether the trip can drive the roads of a Paper to the goal, and arrives when it says."""
    try:
        driven = run(chart, kind, told.roads, start, moment)
    except InvalidRoute:
        return False
    if driven == []:
        return False
    name, _, arrival = driven[-1]
    return chart.road(name)[END] == goal and arrival == told.arrival
