"""What can be come to at all, whatever the moment."""

from waypapers.maps import END
from waypapers.search import spread
from waypapers.travel import NO_ROAD, check_names, road_turns, turns


def reached(chart, kind, place):
    """Return the places that are come to from a place."""
    check_names(chart, kind, [place], [])
    behind = turns(chart, kind, place)
    met = spread(NO_ROAD, lambda last: behind[last])
    ends = [place, *[chart.road(name)[END] for name in met if name != NO_ROAD]]
    return [other for other in chart.places if other in ends]


def reach_table(chart, kind):
    """Return for each place the tuple of the place and the tuple of the places that are come to from it."""
    chart.check_kind(kind)
    return [(place, tuple(reached(chart, kind, place))) for place in chart.places]


def traps(chart, kind, home):
    """Return the places that are come to from the home and from which the home is not come to."""
    return [place for place in reached(chart, kind, home) if home not in reached(chart, kind, place)]


def rounds_of_roads(chart, kind):
    """Return the groups of the roads that lie on rounds."""
    chart.check_kind(kind)
    behind = road_turns(chart, kind)
    met = {name: _roads_behind(behind, name) for name in chart.road_names}
    groups = []
    for name in chart.road_names:
        group = tuple([other for other in chart.road_names if other in met[name] and name in met[other]])
        # A road that lies on no round has no group, and each group is found at each of its roads.
        if group != () and group[0] == name:
            groups.append(group)
    return groups


def _roads_behind(behind, name):
    """Return a dict of the roads that are come to from a road, where each road has some roads directly behind it."""
    met = spread(name, lambda last: behind[last])
    return {further: True for last in met for further in behind[last]}
