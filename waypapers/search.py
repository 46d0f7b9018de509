"""Searches from road to road."""

from heapq import heappop, heappush

from waypapers.maps import END
from waypapers.travel import NO_ROAD, arrive, turns

# Where the parts of a state stand in its tuple.
ROAD = 0
PASSED = 1

# Where the parts of what a search tells of a state stand in its tuple.
ARRIVAL = 0
BEFORE = 1


def search(chart, kind, start, moment, marks):
    """Return a dict of all states that a trip can come to, each with its earliest arrival and the state before it.

    A state is the last road of a route, and the marks of all places that the route has passed, joined by `|`.
    Each place may have a mark of its own, a power of two.
    """
    behind = turns(chart, kind, start)
    first = (NO_ROAD, marks.get(start, 0))
    came = {first: (moment, None)}
    queue = [(moment, first)]
    while queue:
        now, state = heappop(queue)
        for name in behind[state[ROAD]]:
            further = (name, state[PASSED] | marks.get(chart.road(name)[END], 0))
            # States leave the queue in the order of their arrivals, and being at a road earlier is never worse.
            # So the first arrival that is found is the earliest one.
            if further not in came:
                arrival = arrive(chart, name, now)
                came[further] = (arrival, state)
                heappush(queue, (arrival, further))
    return came


def place_of(chart, start, state):
    """Return the place at which a trip from the start is in a state."""
    if state[ROAD] == NO_ROAD:
        return start
    return chart.road(state[ROAD])[END]


def earliest_of(came, states):
    """Return the one of the states that a search came to at first, or None if there are none."""
    arrivals = [(came[state][ARRIVAL], state) for state in states]
    if arrivals == []:
        return None
    return min(arrivals)[1]


def route_to(came, state):
    """Return the route on which a search came to a state."""
    route = []
    while state[ROAD] != NO_ROAD:
        route.append(state[ROAD])
        state = came[state][BEFORE]
    return route[::-1]


def spread(first, steps):
    """Return a dict of all that can be come to from the first one, each with the one before it.

    `steps` is a function that returns the list of all that can be come to from one directly.
    """
    before = {first: None}
    waiting = [first]
    while waiting:
        last = waiting.pop()
        for further in steps(last):
            if further not in before:
                before[further] = last
                waiting.append(further)
    return before
