"""Routes that share no road, and roads that cut all ways."""

from waypapers.errors import InvalidQuestion
from waypapers.search import spread
from waypapers.travel import NO_ROAD, check_names, turns

# Each road is two nodes of a network: flow comes to it at the one and leaves it at the other one.
INTO = 0
OUT = 1

# Where the parts of a node stand in its tuple.
ROAD = 0
SIDE = 1

# All flow comes out of NO_ROAD at the first place, and goes into it at the second one.
SOURCE = ("", 1)
SINK = ("", 0)


class Apart:
    """Ways that are apart, and a cut with as many roads."""

    def __init__(self, routes, cut):
        self.routes = [tuple(route) for route in routes]
        self.cut = tuple(cut)


def apart(chart, kind, start, goal):
    """Return the Apart of two places: as many ways that are apart as possible, and a cut with as many roads."""
    _check_question(chart, kind, start, goal)
    arcs = _arcs(chart, kind, start, goal)
    flow = _most_flow(arcs)
    met = _more_flow(arcs, flow)
    # No more flow can leave these roads, and none can come to the goal but over them.
    cut = [name for name in chart.road_names if (name, INTO) in met and (name, OUT) not in met]
    return Apart(_ways(flow), cut)


def _check_question(chart, kind, start, goal):
    """Raise the errors of a question about the ways from a place to another one."""
    check_names(chart, kind, [start, goal], [])
    if start == goal:
        raise InvalidQuestion("both places are the same")


def _arcs(chart, kind, start, goal):
    """Return the network of the ways: for each node those to which flow can go on."""
    behind = turns(chart, kind, start)
    arcs = {(last, OUT): [(further, INTO) for further in behind[last]] for last in behind}
    for name in chart.roads_to(goal):
        arcs[(name, OUT)].append(SINK)
    for name in chart.road_names:
        arcs[(name, INTO)] = [(name, OUT)]
    arcs[SINK] = []
    return arcs


def _most_flow(arcs):
    """Return a dict of the arcs that carry flow, where no more flow is possible."""
    flow = {}
    before = _more_flow(arcs, flow)
    while SINK in before:
        node = SINK
        while node != SOURCE:
            last = before[node]
            if (node, last) in flow:
                del flow[(node, last)]
            else:
                flow[(last, node)] = True
            node = last
        before = _more_flow(arcs, flow)
    return flow


def _more_flow(arcs, flow):
    """Return a dict of the nodes to which more flow can come, each with the node before it."""
    return spread(SOURCE, lambda node: _free_arcs(arcs, flow, node) + _turned_arcs(flow, node))


def _free_arcs(arcs, flow, node):
    """Return the nodes to which more flow can go on from a node: through each road it goes only once."""
    return [further for further in arcs[node] if node[SIDE] == OUT or (node, further) not in flow]


def _turned_arcs(flow, node):
    """Return the nodes whose flow to this node can be taken back, to go on elsewhere."""
    return [last for last, further in flow if further == node]


def _ways(flow):
    """Return the ways of a flow."""
    behind = {last[ROAD]: further[ROAD] for last, further in flow if last[SIDE] == OUT and last != SOURCE}
    ways = []
    for first in sorted([further[ROAD] for last, further in flow if last == SOURCE]):
        way = [first]
        while behind[way[-1]] != NO_ROAD:
            way.append(behind[way[-1]])
        ways.append(way)
    return ways


def check_apart(chart, kind, start, goal, routes, cut):
    """Tell whether the routes are ways that are apart, and the cut is one with as many roads."""
    _check_question(chart, kind, start, goal)
    used = [name for route in routes for name in route]
    if len(set(used)) < len(used) or len(cut) != len(routes):
        return False
    behind = turns(chart, kind, start)
    ends = chart.roads_to(goal)
    if not all(_is_way(behind, ends, route) for route in routes):
        return False
    return not _has_way(behind, ends, cut)


def _is_way(behind, ends, route):
    """Tell whether a route is a way that ends with one of some roads."""
    last = NO_ROAD
    for name in route:
        if name not in behind[last]:
            return False
        last = name
    return last in ends


def _has_way(behind, ends, cut):
    """Tell whether there is a way that ends with one of some roads, without the roads of a cut."""
    met = spread(NO_ROAD, lambda last: [further for further in behind[last] if further not in cut])
    return any(name in met for name in ends)


def vital_roads(chart, kind, start, goal):
    """Return the names of the roads without which there is no way, or None if there are no ways."""
    _check_question(chart, kind, start, goal)
    behind = turns(chart, kind, start)
    ends = chart.roads_to(goal)
    if not _has_way(behind, ends, []):
        return None
    return [name for name in chart.road_names if not _has_way(behind, ends, [name])]
