"""The latest start, and trips that begin at several moments."""

from waypapers.routes import earliest


class Latest:
    """The latest start of a trip that arrives in time, with a route and its arrival."""

    def __init__(self, moment, roads, arrival):
        self.moment = moment
        self.roads = tuple(roads)
        self.arrival = arrival


def latest_start(chart, kind, start, goal, by):
    """Return the Latest of the trips that arrive at the goal at the moment `by` or before, or None."""
    if not _is_in_time(earliest(chart, kind, start, goal, 0), by):
        return None
    # Nobody arrives ahead of their beginning. And up to the latest start every moment is early enough, and behind
    # it none is, so the middle one tells on which side of it the latest start lies.
    early = 0
    late = by + 1
    while late - early > 1:
        middle = (early + late) // 2
        if _is_in_time(earliest(chart, kind, start, goal, middle), by):
            early = middle
        else:
            late = middle
    route = earliest(chart, kind, start, goal, early)
    return Latest(early, route.roads, route.arrival)


def _is_in_time(route, by):
    """Tell whether there is a Route, and whether it arrives at the moment `by` or before."""
    return route is not None and route.arrival <= by


def arrivals_from(chart, kind, start, goal, moments):
    """Return the earliest arrivals of the trips that begin at the moments, or None if there is no route."""
    # Whether there is a route does not depend on the moment, and the list of moments may be empty.
    if earliest(chart, kind, start, goal, 0) is None:
        return None
    return [earliest(chart, kind, start, goal, moment).arrival for moment in moments]


def quickest(chart, kind, start, goal, moments):
    """Return the first moment from which a trip takes the fewest minutes, with this number, or None."""
    return min(_minutes_from(chart, kind, start, goal, moments), key=lambda row: row[1], default=None)


def slowest(chart, kind, start, goal, moments):
    """Return the first moment from which a trip takes the most minutes, with this number, or None."""
    return max(_minutes_from(chart, kind, start, goal, moments), key=lambda row: row[1], default=None)


def _minutes_from(chart, kind, start, goal, moments):
    """Return each of the moments with the minutes of the trip that begins then, none if there is no route."""
    arrivals = arrivals_from(chart, kind, start, goal, moments)
    if arrivals is None:
        return []
    return [(moment, arrival - moment) for moment, arrival in zip(moments, arrivals)]
