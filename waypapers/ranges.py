"""Ranges: what a trip can come to within some minutes, and papers that show it."""

from waypapers.maps import END
from waypapers.papers import are_low_enough, least_numbers
from waypapers.reach import reached
from waypapers.routes import labels, places_from
from waypapers.travel import check_names


def within(chart, kind, start, moment, minutes):
    """Return the tuples (place, arrival) of the places of the range."""
    bound = moment + minutes
    return [(place, arrival) for place, arrival in places_from(chart, kind, start, moment) if arrival <= bound]


def range_paper(chart, kind, start, moment, minutes):
    """Return the tuples (road, arrival) of the roads over which the trip arrives within the range."""
    bound = moment + minutes
    return [(name, arrival) for name, arrival in labels(chart, kind, start, moment) if arrival <= bound]


def check_range(chart, kind, start, moment, minutes, places, paper):
    """Tell whether a paper shows that only these places are in the range, without a search."""
    check_names(chart, kind, [start, *places], [name for name, _ in paper])
    bound = moment + minutes
    least = least_numbers(paper)
    # Arrivals behind the bound need no label, so a label behind it is as good as none.
    numbers = {name: least[name] for name in least if least[name] <= bound}
    if start not in places or not all([chart.road(name)[END] in places for name in numbers]):
        return False
    return are_low_enough(chart, kind, start, moment, numbers, bound)


def nearest(chart, kind, start, goals, moment):
    """Return the tuple (place, arrival) of the nearest one of the goals, or None if none can be come to."""
    check_names(chart, kind, [start, *goals], [])
    rows = [row for row in places_from(chart, kind, start, moment) if row[0] in goals]
    # Of several rows with the least arrival this is the first one, and the rows stand in the order of the places.
    return min(rows, key=lambda row: row[1], default=None)


def unreached(chart, kind, start):
    """Return the places that can never be come to from the start."""
    met = reached(chart, kind, start)
    return [place for place in chart.places if place not in met]
