"""Maps and helpers that several tests share."""

from waypapers.maps import Map

FIELDS = ("day", "kinds", "places", "roads", "bars")


def fields(chart):
    """Return all fields of a map."""
    return tuple(getattr(chart, field) for field in FIELDS)


def town():
    """Return a map with each sort of hours, with a loop, and with bars."""
    return Map(
        day=60,
        kinds=["foot", "bus"],
        places=["inn", "mill", "pier", "lone"],
        roads=[
            ("lane", "inn", "mill", 5, ["foot", "bus"], None),
            ("ferry", "mill", "pier", 20, ["bus"], [(10, 20), (30, 60)]),
            ("back", "pier", "inn", 7, ["foot", "bus"], [(0, 30)]),
            ("ring", "mill", "mill", 1, ["bus", "foot"], None),
            ("ruin", "inn", "pier", 3, ["foot", "bus"], []),
            ("path", "mill", "inn", 9, [], None),
        ],
        bars=[("ring", "ring"), ("lane", "ferry")],
    )
