"""Differences and merged maps: points 73 to 76, and the interface of waypapers/differences.py."""

import copy
import random
import unittest

from asking import AskingTest
from changing import random_set
from plain import random_map
from samples import fields, town
from waypapers.differences import conflicts, difference, merged_maps
from waypapers.errors import Conflict, InvalidMap, InvalidQuestion
from waypapers.maps import Map
from waypapers.sets import applied


def square(**parts):
    """Return a map with four places, roads and two bars, or with other parts of these."""
    told = {
        "day": 60,
        "kinds": ["bus", "car"],
        "places": ["a", "b", "c", "d"],
        "roads": [
            ("q", "a", "b", 5, ["bus"], None), ("r", "b", "c", 6, ["bus", "car"], [(10, 20)]),
            ("s", "c", "d", 7, [], []), ("t", "d", "a", 8, ["car"], None),
        ],
        "bars": [("q", "r"), ("s", "t")],
    }
    told.update(parts)
    return Map(**told)


def with_parts(chart, **parts):
    """Return a map with other parts."""
    told = dict(zip(("day", "kinds", "places", "roads", "bars"), fields(chart)))
    told.update(parts)
    return Map(**told)


def plain_difference(old, new):
    """Return the changes of point 73, by its words."""
    roads, others = ({road[0]: road for road in chart.roads} for chart in (old, new))
    both = [name for name in roads if name in others]
    moved = [name for name in both if roads[name][1:3] != others[name][1:3]]
    changes = [("unbar", *bar) for bar in old.bars if bar not in new.bars or set(bar) & set(moved)]
    changes += [("unroad", roads[name]) for name in roads if name not in others or name in moved]
    changes += [("unplace", place) for place in old.places if place not in new.places]
    changes += [("place", place) for place in new.places if place not in old.places]
    changes += [("road", others[name]) for name in others if name not in roads or name in moved]
    for name in both:
        for at, word in ((3, "minutes"), (4, "kinds"), (5, "hours")):
            if name not in moved and roads[name][at] != others[name][at]:
                changes.append((word, name, roads[name][at], others[name][at]))
    return changes + [("bar", *bar) for bar in new.bars if bar not in old.bars or set(bar) & set(moved)]


def told_of(chart, thing):
    """Return what a map tells of a thing: the road with its parts, or whether it is there."""
    if thing[0] == "place":
        return thing[1] in chart.places
    if thing[0] == "bar":
        return thing[1:] in chart.bars
    return next((road for road in chart.roads if road[0] == thing[1]), None)


def plain_merge(base, one, other):
    """Return the conflicts and the merged places, roads and bars, by the words of point 75."""
    things = set()
    for chart in (base, one, other):
        things |= {("place", place) for place in chart.places} | {("bar", *bar) for bar in chart.bars}
        things |= {("road", road[0]) for road in chart.roads}
    found, parts = [], {"place": [], "road": [], "bar": []}
    for thing in sorted(things):
        before, mine, theirs = (told_of(chart, thing) for chart in (base, one, other))
        if mine != before and theirs != before and mine != theirs:
            found.append(thing)
        told = mine if mine == theirs or theirs == before else theirs
        if told:
            parts[thing[0]].append(told if thing[0] == "road" else thing[1:])
    places = [place for place, in parts["place"]]
    if not found:
        roads = {road[0]: road for road in parts["road"]}
        for first, second in parts["bar"]:
            if first not in roads or second not in roads or roads[first][2] != roads[second][1]:
                found.append(("bar", first, second))
        found += [("road", name) for name, road in roads.items() if not set(road[1:3]) <= set(places)]
    return sorted(found), (places, parts["road"], parts["bar"])


def edited_map(chance, chart):
    """Return a map in which some roads are gone or moved and some bars and places are other ones."""
    roads = []
    for road in chart.roads:
        sort = chance.randrange(10)
        if sort == 0:
            road = (road[0], chance.choice(chart.places), chance.choice(chart.places), *road[3:])
        elif sort == 1:
            road = (*road[:3], road[3] % 3 + 1, *road[4:])
        if sort != 2:
            roads.append(road)
    ends = {road[0]: road[1:3] for road in roads}
    pairs = [(first, second) for first in ends for second in ends if ends[first][1] == ends[second][0]]
    bars = [bar for bar in pairs if (bar in chart.bars and chance.random() < 0.9) or chance.random() < 0.05]
    used = {place for road in roads for place in road[1:3]}
    places = [place for place in chart.places if place in used or chance.random() < 0.5]
    return with_parts(chart, places=places, roads=roads, bars=bars)


class DifferencesTest(AskingTest):
    def assert_difference(self, old, new, *changes):
        self.assertEqual(difference(old, new), list(changes))
        self.assertEqual(plain_difference(old, new), list(changes))
        self.assertEqual(fields(applied(old, list(changes))), fields(new))

    def assert_merged(self, base, one, other, expected):
        """Look whether both orders of two maps are merged to one map."""
        for pair in ((one, other), (other, one)):
            self.assertEqual(conflicts(base, *pair), [])
            told = merged_maps(base, *pair)
            self.assertIsInstance(told, Map)
            self.assertEqual(fields(told), fields(expected))

    def assert_conflicts(self, base, one, other, *things):
        """Look whether both orders of two maps have just these conflicts."""
        self.assertEqual(plain_merge(base, one, other)[0], list(things))
        for pair in ((one, other), (other, one)):
            self.assertEqual(conflicts(base, *pair), list(things))
            with self.assertRaises(Conflict) as caught:
                merged_maps(base, *pair)
            self.assertEqual(caught.exception.things, list(things))


class DifferenceTest(DifferencesTest):
    def test_example_of_the_interface(self):
        base = Map(day=60, kinds=["foot"], places=["a", "b"], roads=[("r", "a", "b", 5, ["foot"], None)])
        self.assert_difference(base, base.with_hours("r", [(0, 30)]), ("hours", "r", None, ((0, 30),)))

    def test_a_map_and_itself(self):
        for chart in (town(), square(), Map(day=1, kinds=["car"]), random_map(3)):
            self.assert_difference(chart, chart)
            self.assert_difference(chart, with_parts(chart))

    def test_bars(self):
        self.assert_difference(
            square(), square(bars=[("t", "q"), ("q", "r"), ("r", "s")]),
            ("unbar", "s", "t"), ("bar", "r", "s"), ("bar", "t", "q"),
        )
        self.assert_difference(square(), square(bars=[]), ("unbar", "q", "r"), ("unbar", "s", "t"))
        self.assert_difference(square(bars=[]), square(), ("bar", "q", "r"), ("bar", "s", "t"))

    def test_roads(self):
        more = [("a1", "a", "a", 1, ("bus",), ((0, 60),)), ("z", "c", "a", 2, (), None)]
        chart = square(roads=[*reversed(more), *square().roads])
        self.assert_difference(square(), chart, ("road", more[0]), ("road", more[1]))
        self.assert_difference(chart, square(), ("unroad", more[0]), ("unroad", more[1]))

    def test_places(self):
        chart = square(places=["z", "a", "b", "c", "d", "a1"])
        self.assert_difference(square(), chart, ("place", "a1"), ("place", "z"))
        self.assert_difference(chart, square(), ("unplace", "a1"), ("unplace", "z"))
        self.assert_difference(chart, square(places=["y", "a", "b", "c", "d"]), *[
            ("unplace", "a1"), ("unplace", "z"), ("place", "y"),
        ])

    def test_a_road_that_is_gone_with_its_bars(self):
        gone = square().road("r")
        self.assert_difference(square(), square().without_road("r"), ("unbar", "q", "r"), ("unroad", gone))

    def test_parts_of_roads(self):
        row = ("r", "b", "c", 6, ("bus", "car"), ((10, 20),))
        for at, word, after in (
            (3, "minutes", 9), (4, "kinds", ("car",)), (4, "kinds", ()), (5, "hours", None), (5, "hours", ()),
        ):
            chart = square().with_road((*row[:at], after, *row[at + 1:]))
            self.assert_difference(square(), chart, (word, "r", row[at], after))
            self.assert_difference(chart, square(), (word, "r", after, row[at]))

    def test_parts_of_roads_that_change_together(self):
        chart = square().with_road(("t", "d", "a", 9, [], [(1, 2)])).with_road(("q", "a", "b", 1, ["car"], []))
        self.assert_difference(
            square(), chart,
            ("minutes", "q", 5, 1), ("kinds", "q", ("bus",), ("car",)), ("hours", "q", None, ()),
            ("minutes", "t", 8, 9), ("kinds", "t", ("car",), ()), ("hours", "t", None, ((1, 2),)),
        )
        chart = square().with_road(("t", "d", "a", 8, [], [(1, 2)]))
        self.assert_difference(square(), chart, ("kinds", "t", ("car",), ()), ("hours", "t", None, ((1, 2),)))

    def test_a_moved_road(self):
        old, new = square(bars=[]), square(bars=[]).with_road(("r", "b", "d", 6, ["bus", "car"], [(10, 20)]))
        self.assert_difference(old, new, ("unroad", old.road("r")), ("road", new.road("r")))
        new = square(bars=[]).with_road(("r", "a", "c", 9, [], None))
        self.assert_difference(old, new, ("unroad", old.road("r")), ("road", new.road("r")))

    def test_a_moved_road_with_bars_of_both_maps(self):
        old = square(bars=[("q", "r"), ("r", "s"), ("s", "t"), ("t", "q")])
        # The road now starts where it starts, but ends elsewhere: a bar of both maps goes and comes back.
        new = square(bars=[]).with_road(("r", "b", "d", 6, ["bus"], None))
        new = new.with_bar("q", "r").with_bar("r", "t").with_bar("s", "t").with_bar("t", "q")
        self.assert_difference(
            old, new,
            ("unbar", "q", "r"), ("unbar", "r", "s"), ("unroad", old.road("r")), ("road", new.road("r")),
            ("bar", "q", "r"), ("bar", "r", "t"),
        )

    def test_two_moved_roads_with_a_bar_of_both_maps(self):
        old = square(bars=[("q", "r")])
        new = square(bars=[]).with_road(("q", "a", "d", 5, ["bus"], None))
        new = new.with_road(("r", "d", "c", 6, ["bus", "car"], [(10, 20)])).with_bar("q", "r")
        self.assert_difference(
            old, new, ("unbar", "q", "r"), ("unroad", old.road("q")), ("unroad", old.road("r")),
            ("road", new.road("q")), ("road", new.road("r")), ("bar", "q", "r"),
        )

    def test_a_moved_loop_that_is_barred_behind_itself(self):
        old = square(bars=[]).with_road(("x", "a", "a", 1, [], None)).with_bar("x", "x")
        new = square(bars=[]).with_road(("x", "b", "b", 1, [], None)).with_bar("x", "x")
        self.assert_difference(old, new, *[
            ("unbar", "x", "x"), ("unroad", old.road("x")), ("road", new.road("x")), ("bar", "x", "x"),
        ])

    def test_a_place_is_replaced_while_a_road_moves(self):
        old = square(places=["a", "b", "c", "d"])
        roads = [("q", "a", "e", 5, ["bus"], None), ("r", "e", "c", 6, ["car"], None), old.roads[2], old.roads[3]]
        new = square(places=["a", "c", "d", "e"], roads=roads)
        self.assert_difference(
            old, new, ("unbar", "q", "r"), ("unroad", old.road("q")), ("unroad", old.road("r")), ("unplace", "b"),
            ("place", "e"), ("road", new.road("q")), ("road", new.road("r")), ("bar", "q", "r"),
        )

    def test_all_sorts_of_changes_in_their_order(self):
        roads = [
            ("p", "d", "d", 1, ["bus"], None), ("q", "a", "d", 5, ["bus"], None), ("s", "c", "d", 9, ["car"], None),
            ("t", "d", "a", 8, ["car"], [(0, 1)]),
        ]
        new = square(places=["a", "c", "d", "e"], roads=roads, bars=[("q", "t"), ("s", "t"), ("s", "p")])
        self.assert_difference(
            square(), new, ("unbar", "q", "r"), ("unroad", square().road("q")), ("unroad", square().road("r")),
            ("unplace", "b"), ("place", "e"), ("road", new.road("p")), ("road", new.road("q")), ("minutes", "s", 7, 9),
            ("kinds", "s", (), ("car",)), ("hours", "s", (), None), ("hours", "t", None, ((0, 1),)),
            ("bar", "q", "t"), ("bar", "s", "p"),
        )

    def test_full_maps(self):
        for seed in range(6):
            one = random_map(seed, places=30, roads=60, bars=40, day=1440)
            other = random_map(seed + 50, places=30, roads=60, bars=40, day=1440)
            places = {f"p{number}": f"x{number}" for number in range(30)}
            roads = [(f"x{road[0]}", places[road[1]], places[road[2]], *road[3:]) for road in other.roads]
            bars = [tuple(f"x{name}" for name in bar) for bar in other.bars]
            strange = with_parts(other, places=list(places.values()), roads=roads, bars=bars)
            for pair in ((one, other), (one, strange), (strange, other)):
                self.assert_difference(*pair, *plain_difference(*pair))

    def test_random_maps(self):
        found = {}
        for seed in range(150):
            old = random_map(seed, places=4, roads=6, bars=4)
            new = random_map(seed + 500, places=4, roads=6, bars=4)
            if seed % 3:
                new = applied(old, random_set(random.Random(seed), old, 8))
            if seed % 3 == 2:
                old, new = new, old
            changes = plain_difference(old, new)
            self.assert_difference(old, new, *changes)
            for change in changes:
                found[change[0]] = found.get(change[0], 0) + 1
        self.assertEqual((len(found), min(found.values()) > 10), (9, True), found)

    def test_other_days_and_other_kinds(self):
        for other in (square(day=61), square(kinds=["bus", "car", "van"]), with_parts(town(), day=61)):
            self.assert_invalid_question(difference, square(), other)
            self.assert_invalid_question(difference, other, square())
        less = Map(day=60, kinds=["bus"])
        self.assert_invalid_question(difference, Map(day=60, kinds=["bus", "car"]), less)
        self.assert_invalid_question(difference, less, Map(day=60, kinds=["car"]))
        self.assertEqual(difference(Map(day=60, kinds=["car", "bus"]), Map(day=60, kinds=["bus", "car"])), [])

    def test_nothing_changes(self):
        self.assert_new_lists(difference, square(), square(bars=[]))
        old, new = square(), square(bars=[]).with_place("e")
        before = copy.deepcopy((fields(old), fields(new)))
        self.assertEqual(difference(old, new), difference(old, new))
        self.assertEqual((fields(old), fields(new)), before)


class MergedMapsTest(DifferencesTest):
    def test_example_of_the_interface(self):
        base = Map(day=60, kinds=["foot"], places=["a", "b"], roads=[("r", "a", "b", 5, ["foot"], None)])
        one = base.with_hours("r", [(0, 30)])
        self.assertEqual(merged_maps(base, one, base.with_place("c")).places, ("a", "b", "c"))
        self.assert_conflicts(base, one, base.without_road("r"), ("road", "r"))

    def test_none_of_the_maps_changed_anything(self):
        self.assert_merged(square(), square(), square(), square())

    def test_one_of_the_maps_changed_something(self):
        for change in (
            ("place", "e"), ("unbar", "q", "r"), ("bar", "r", "s"), ("road", ("z", "a", "c", 1, (), None)),
            ("minutes", "q", 5, 6), ("kinds", "q", ("bus",), ()), ("hours", "q", None, ()),
        ):
            changed = applied(square(), [change])
            self.assert_merged(square(), changed, square(), changed)
            # What both changed in the same way is no conflict.
            self.assert_merged(square(), changed, applied(square(), [change]), changed)
        changed = square().without_road("q")
        self.assert_merged(square(), changed, square(), changed)
        self.assert_merged(square(), changed, changed, changed)
        free = square(places=["a", "b", "c", "d", "e"])
        self.assert_merged(free, square(), free, square())
        self.assert_merged(free, square(), square(), square())

    def test_both_maps_changed_other_things(self):
        one = applied(square(), [("place", "e"), ("road", ("z", "e", "e", 1, (), None)), ("minutes", "q", 5, 6)])
        other = applied(square(), [("place", "f"), ("unbar", "s", "t"), ("bar", "r", "s"), ("hours", "t", None, ())])
        expected = applied(one, [("place", "f"), ("unbar", "s", "t"), ("bar", "r", "s"), ("hours", "t", None, ())])
        self.assert_merged(square(), one, other, expected)

    def test_a_bar_beside_a_changed_road(self):
        # The road is another one, but it starts and ends where it did.
        one = square().with_road(("r", "b", "c", 1, [], None))
        other = square().with_bar("r", "s")
        self.assert_merged(square(), one, other, one.with_bar("r", "s"))

    def test_a_road_changed_in_two_ways(self):
        one = applied(square(), [("minutes", "q", 5, 6)])
        for changes in ([("minutes", "q", 5, 7)], [("kinds", "q", ("bus",), ())], [("hours", "q", None, ())]):
            self.assert_conflicts(square(), one, applied(square(), changes), ("road", "q"))
        self.assert_conflicts(square(), one, square().without_road("q"), ("road", "q"))
        moved = square(bars=[("s", "t")]).with_road(("q", "a", "d", 5, ["bus"], None))
        self.assert_conflicts(square(), one, moved, ("road", "q"))
        # A road of one name that both added with other parts.
        one, other = (square().with_road(("z", "a", "c", minutes, [], None)) for minutes in (1, 2))
        self.assert_conflicts(square(), one, other, ("road", "z"))
        self.assert_merged(square(), one, one, one)

    def test_back_to_the_base_is_no_change(self):
        one = applied(square(), [("minutes", "q", 5, 6), ("minutes", "q", 6, 5), ("place", "e"), ("unplace", "e")])
        other = applied(square(), [("minutes", "q", 5, 7)])
        self.assert_merged(square(), one, other, other)

    def test_places_and_bars_never_clash_in_the_first_step(self):
        # What there is of a place or a bar is yes or no, so two changes of it are the same.
        one = applied(square(), [("place", "e"), ("unbar", "q", "r")])
        self.assert_merged(square(), one, applied(square(), [("place", "e"), ("unbar", "q", "r")]), one)

    def test_several_conflicts_in_their_order(self):
        one = applied(square(), [("minutes", "t", 8, 1), ("minutes", "q", 5, 1), ("minutes", "r", 6, 1)])
        other = applied(square(), [("minutes", "t", 8, 2), ("minutes", "q", 5, 2), ("minutes", "s", 7, 2)])
        self.assert_conflicts(square(), one, other, ("road", "q"), ("road", "t"))

    def test_a_bar_of_a_road_that_is_gone(self):
        chart = square(bars=[])
        one = chart.with_bar("q", "r").with_bar("r", "s").with_bar("t", "q")
        self.assert_conflicts(chart, one, chart.without_road("r"), ("bar", "q", "r"), ("bar", "r", "s"))
        ring = chart.with_road(("x", "a", "a", 1, [], None))
        self.assert_conflicts(ring, ring.with_bar("x", "x"), chart, ("bar", "x", "x"))

    def test_a_bar_of_a_road_that_is_moved(self):
        chart = square(bars=[])
        moved = chart.with_road(("r", "b", "d", 6, ["bus", "car"], [(10, 20)]))
        # The road still starts where it did, so the bar in front of it fits.
        one = chart.with_bar("q", "r").with_bar("r", "s")
        self.assert_conflicts(chart, one, moved, ("bar", "r", "s"))
        self.assert_merged(chart, chart.with_bar("q", "r"), moved, moved.with_bar("q", "r"))
        moved = chart.with_road(("r", "a", "c", 6, ["bus", "car"], [(10, 20)]))
        self.assert_conflicts(chart, one, moved, ("bar", "q", "r"))

    def test_bars_that_no_longer_fit_for_both_maps_together(self):
        base = square(bars=[("q", "r")])
        # Each of the maps moves one road and has no bar then; only together the roads would touch.
        one = square(bars=[]).with_road(("q", "a", "d", 5, ["bus"], None))
        other = square(bars=[]).with_road(("r", "d", "c", 6, ["bus"], None))
        expected = with_parts(one, roads=[*[road for road in one.roads if road[0] != "r"], other.road("r")])
        self.assert_merged(base, one, other, expected)

    def test_a_road_of_a_place_that_is_gone(self):
        free = square(places=["a", "b", "c", "d", "e"])
        one = free.with_road(("z", "e", "a", 1, [], None)).with_road(("y", "a", "e", 1, [], None))
        one = one.with_road(("x", "e", "e", 1, [], None)).with_road(("w", "a", "a", 1, [], None))
        self.assert_conflicts(free, one, square(), ("road", "x"), ("road", "y"), ("road", "z"))
        moved = with_parts(free, bars=[]).with_road(("q", "a", "e", 5, ["bus"], None))
        self.assert_conflicts(free, moved, square(), ("road", "q"))

    def test_bars_and_roads_that_do_not_fit_stand_together(self):
        free = square(places=["a", "b", "c", "d", "e"], bars=[])
        one = free.with_road(("z", "c", "e", 1, [], None)).with_bar("r", "z").with_bar("t", "q")
        other = with_parts(square(), bars=[]).without_road("t")
        self.assert_conflicts(free, one, other, ("bar", "t", "q"), ("road", "z"))
        # The bar of a road that does not fit is there with both of its roads.
        self.assert_conflicts(free, one, square(bars=[]), ("road", "z"))

    def test_the_second_step_only_if_the_first_one_has_none(self):
        chart = square(bars=[])
        one = applied(chart, [("bar", "q", "r"), ("minutes", "t", 8, 1)])
        self.assert_conflicts(chart, one, chart.without_road("r"), ("bar", "q", "r"))
        other = applied(chart.without_road("r"), [("minutes", "t", 8, 2)])
        self.assert_conflicts(chart, one, other, ("road", "t"))

    def test_too_many_parts(self):
        places = [f"p{number}" for number in range(29)]
        roads = [(f"r{number}", "p0", "p0", 1, (), None) for number in range(59)]
        bars = [("r0", f"r{number}") for number in range(39)]
        chart = Map(day=60, kinds=["bus"], places=places, roads=roads, bars=bars)
        for one, other in (
            (chart.with_place("a"), chart.with_place("b")),
            (chart.with_road(("a", "p0", "p0", 1, [], None)), chart.with_road(("b", "p0", "p0", 1, [], None))),
            (chart.with_bar("r1", "r1"), chart.with_bar("r2", "r2")),
        ):
            for pair in ((one, other), (other, one)):
                self.assertEqual(conflicts(chart, *pair), [])
                self.assertRaises(InvalidMap, merged_maps, chart, *pair)
            self.assertEqual(fields(merged_maps(chart, one, one)), fields(one))
        swapped = chart.without_place("p28").with_place("b")
        self.assertEqual(len(merged_maps(chart, chart.with_place("a"), swapped).places), 30)
        # A conflict comes first.
        one = chart.with_place("a").with_road(("r1", "p0", "p0", 2, (), None))
        other = chart.with_place("b").with_road(("r1", "p0", "p0", 3, (), None))
        self.assert_conflicts(chart, one, other, ("road", "r1"))

    def test_other_days_and_other_kinds(self):
        one, other = (square().with_road(("z", "a", "c", minutes, [], None)) for minutes in (1, 2))
        more = with_parts(one, kinds=["bus", "car", "van"])
        for strange in (with_parts(one, day=61), more, Map(day=60, kinds=["bus"])):
            for charts in ((strange, one, other), (one, strange, other), (one, other, strange)):
                self.assert_invalid_question(conflicts, *charts)
                self.assert_invalid_question(merged_maps, *charts)
        less = Map(day=60, kinds=["bus"])
        for charts in ((less, less, Map(day=61, kinds=["bus"])), (less, Map(day=60, kinds=["car"]), less)):
            self.assert_invalid_question(conflicts, *charts)
            self.assert_invalid_question(merged_maps, *charts)

    def test_random_maps(self):
        found = {"merged": 0, "bar": 0, "road": 0, "both": 0}
        for seed in range(800):
            chance = random.Random(seed)
            base = random_map(seed, places=5, roads=6, bars=3)
            one, other = edited_map(chance, base), edited_map(chance, base)
            things, (places, roads, bars) = plain_merge(base, one, other)
            if things:
                words = {thing[0] for thing in things}
                found["both" if len(words) > 1 else words.pop()] += 1
                self.assert_conflicts(base, one, other, *things)
            else:
                found["merged"] += 1
                self.assert_merged(base, one, other, with_parts(base, places=places, roads=roads, bars=bars))
        self.assertGreater(min(found.values()), 4, found)

    def test_maps_of_other_makers(self):
        # Maps that have nothing to do with one another are merged as well, mostly with conflicts.
        found = {True: 0, False: 0}
        for seed in range(200):
            base, one, other = (random_map(seed + number, places=3, roads=2, bars=2) for number in (0, 1000, 2000))
            things, (places, roads, bars) = plain_merge(base, one, other)
            found[bool(things)] += 1
            if things:
                self.assert_conflicts(base, one, other, *things)
            else:
                self.assert_merged(base, one, other, with_parts(base, places=places, roads=roads, bars=bars))
        self.assertGreater(found[True], 20, found)

    def test_nothing_changes(self):
        charts = [square(), square().with_place("e"), square(bars=[])]
        before = copy.deepcopy([fields(chart) for chart in charts])
        for question in (conflicts, merged_maps):
            question(*charts)
            self.assertEqual([fields(chart) for chart in charts], before)
        clash = [square(), *[square().with_road(("z", "a", "c", minutes, [], None)) for minutes in (1, 2)]]
        conflicts(*clash).append("more")
        self.assertEqual(conflicts(*clash), [("road", "z")])
        conflicts(*charts).append("more")
        self.assertEqual(conflicts(*charts), [])
        with self.assertRaises(InvalidQuestion):
            merged_maps(square(), square(), town())


if __name__ == "__main__":
    unittest.main()
