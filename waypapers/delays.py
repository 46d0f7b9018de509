"""Delays: how much later a trip arrives without a road."""

from waypapers.routes import earliest


def delays(chart, kind, start, goal, moment):
    """Return the tuples (road, delay) of the roads without which the trip arrives later, or None if it never does."""
    route = earliest(chart, kind, start, goal, moment)
    if route is None:
        return None
    rows = []
    for name in chart.road_names:
        # Without a road that it does not use, the trip can drive this very route.
        if name in route.roads:
            other = earliest(chart.without_road(name), kind, start, goal, moment)
            rows.append((name, None if other is None else other.arrival - route.arrival))
    return [row for row in rows if row[1] != 0]


def worst_delay(chart, kind, start, goal, moment):
    """Return the first tuple (road, delay) with the worst delay, or None if there is none."""
    rows = delays(chart, kind, start, goal, moment)
    if rows is None or rows == []:
        return None
    worst = rows[0]
    for row in rows:
        if _is_worse(row[1], worst[1]):
            worst = row
    return worst


def _is_worse(delay, other):
    """Tell whether a delay is worse than another one."""
    if delay is None or other is None:
        return delay is None and other is not None
    return delay > other
