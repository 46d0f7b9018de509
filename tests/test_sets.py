"""Sets of changes: points 55 to 60, and the interface of waypapers/sets.py."""

import copy
import random
import unittest

from asking import AskingTest
from changing import behind_change, random_change, random_set, things_below, things_of_clash, touched_thing
from plain import random_map
from samples import fields, town
from waypapers.errors import InvalidSet
from waypapers.maps import Map
from waypapers.sets import applied, are_apart, clashes, leaned_on, taken_back, touched

# Of each sort of changes one that can be made on the map of town.
CHANGES = [
    ("place", "abbey"),
    ("unplace", "lone"),
    ("road", ("new", "pier", "inn", 4, ("bus", "foot"), ((0, 5), (6, 60)))),
    ("unroad", ("ruin", "inn", "pier", 3, ("bus", "foot"), ())),
    ("minutes", "lane", 5, 1000),
    ("kinds", "lane", ("bus", "foot"), ("foot",)),
    ("hours", "lane", None, ((0, 60),)),
    ("bar", "lane", "path"),
    ("unbar", "lane", "ferry"),
]


def many_parts():
    """Return a map with as many places, roads and bars as a map can have, all roads around the place p0."""
    places = [f"p{number}" for number in range(30)]
    roads = [(f"r{number}", "p0", "p0", 1, (), None) for number in range(60)]
    bars = [("r0", f"r{number}") for number in range(40)]
    return Map(day=60, kinds=["car"], places=places, roads=roads, bars=bars)


class SetsTest(AskingTest):
    def assert_invalid(self, number, changes, chart=None):
        with self.assertRaises(InvalidSet) as caught:
            applied(town() if chart is None else chart, changes)
        self.assertEqual(caught.exception.number, number)


class AppliedTest(SetsTest):
    def assert_only(self, change, **parts):
        """Make a change, and look whether just these parts of the map are other ones."""
        told = dict(zip(("day", "kinds", "places", "roads", "bars"), fields(town())))
        told.update(parts)
        self.assertEqual(fields(applied(town(), [change])), fields(Map(**told)))

    def test_places(self):
        self.assert_only(("place", "abbey"), places=[*town().places, "abbey"])
        self.assert_only(("unplace", "lone"), places=["inn", "mill", "pier"])

    def test_roads(self):
        road = ("new", "pier", "lone", 4, ("bus", "foot"), ((0, 5), (6, 60)))
        self.assert_only(("road", road), roads=[*town().roads, road])
        ring = ("new", "lone", "lone", 1, (), None)
        self.assert_only(("road", ring), roads=[*town().roads, ring])
        ruin = ("ruin", "inn", "pier", 3, ("bus", "foot"), ())
        self.assert_only(("unroad", ruin), roads=[road for road in town().roads if road != ruin])

    def test_parts_of_roads(self):
        lane = ("lane", "inn", "mill", 5, ("bus", "foot"), None)
        others = [road for road in town().roads if road != lane]
        self.assert_only(("minutes", "lane", 5, 1000), roads=[*others, (*lane[:3], 1000, *lane[4:])])
        self.assert_only(("minutes", "lane", 5, 1), roads=[*others, (*lane[:3], 1, *lane[4:])])
        for kinds in ((), ("bus",), ("foot",)):
            self.assert_only(("kinds", "lane", ("bus", "foot"), kinds), roads=[*others, (*lane[:4], kinds, None)])
        for hours in ((), ((0, 60),), ((3, 4), (5, 6), (7, 8), (9, 60))):
            self.assert_only(("hours", "lane", None, hours), roads=[*others, (*lane[:5], hours)])
        back = applied(town(), [("hours", "back", ((0, 30),), None), ("kinds", "path", (), ("bus", "foot"))])
        self.assertEqual((back.road("back")[5], back.road("path")[4]), (None, ("bus", "foot")))

    def test_bars(self):
        bars = [("lane", "ferry"), ("ring", "ring")]
        for bar in (("lane", "path"), ("path", "lane"), ("lane", "ring"), ("ring", "ferry")):
            self.assert_only(("bar", *bar), bars=[*bars, bar])
        self.assert_only(("unbar", "ring", "ring"), bars=bars[:1])

    def test_no_changes(self):
        self.assertEqual(fields(applied(town(), [])), fields(town()))
        self.assertEqual(fields(applied(town(), ())), fields(town()))

    def test_changes_rest_on_those_before_them(self):
        road = ("new", "abbey", "inn", 4, (), None)
        changes = [
            ("place", "abbey"), ("road", road), ("bar", "new", "lane"), ("minutes", "new", 4, 7),
            ("minutes", "new", 7, 4), ("unbar", "new", "lane"), ("unroad", road), ("unplace", "abbey"),
        ]
        self.assertEqual(fields(applied(town(), changes)), fields(town()))
        self.assertEqual(fields(applied(town(), tuple(changes))), fields(town()))
        for number in range(1, len(changes)):
            with self.subTest(number=number):
                without = changes[:number - 1] + changes[number:]
                with self.assertRaises(InvalidSet):
                    applied(town(), without)

    def test_the_number_of_the_first_change_that_cannot_be_made(self):
        self.assert_invalid(0, [("place", "inn"), ("place", "mill")])
        self.assert_invalid(1, [("place", "abbey"), ("place", "abbey"), ("place", "abbey")])
        self.assert_invalid(9, [*CHANGES, ("place", "inn")])
        self.assert_invalid(2, [("place", "abbey"), ("unplace", "abbey"), ("unplace", "abbey")])

    def test_nothing_changes(self):
        chart, changes = town(), copy.deepcopy(CHANGES)
        self.assertEqual(fields(applied(chart, changes)), fields(applied(chart, changes)))
        self.assertEqual((fields(chart), changes), (fields(town()), CHANGES))


class CannotBeMadeTest(SetsTest):
    def assert_none_can_be_made(self, *changes, chart=None):
        for change in changes:
            with self.subTest(change=change):
                self.assert_invalid(0, [change], chart)

    def test_what_is_added_is_there(self):
        self.assert_none_can_be_made(
            ("place", "inn"), ("bar", "ring", "ring"), ("bar", "lane", "ferry"),
            ("road", ("lane", "inn", "mill", 5, ("bus", "foot"), None)),
            ("road", ("lane", "lone", "lone", 9, (), ())),
        )

    def test_what_is_removed_is_not_there(self):
        self.assert_none_can_be_made(
            ("unplace", "abbey"), ("unplace", "lane"), ("unbar", "ring", "lane"), ("unbar", "lane", "ring"),
            ("unbar", "ferry", "lane"), ("unbar", "x", "y"), ("unroad", ("x", "inn", "pier", 3, (), ())),
        )

    def test_a_road_with_another_part_is_removed(self):
        ruin = ("ruin", "inn", "pier", 3, ("bus", "foot"), ())
        self.assertEqual(len(applied(town(), [("unroad", ruin)]).roads), 5)
        others = [
            ("back", *ruin[1:]), ("ruin", "mill", *ruin[2:]), ("ruin", "inn", "mill", *ruin[3:]),
            (*ruin[:3], 4, *ruin[4:]), (*ruin[:4], ("bus",), ()), (*ruin[:5], None), (*ruin[:5], ((0, 60),)),
            (*ruin[:4], ("foot", "bus"), ()), (*ruin[:4], ["bus", "foot"], ()), (*ruin[:5], []), list(ruin),
            ruin[:5], (*ruin, None),
        ]
        self.assert_none_can_be_made(*[("unroad", road) for road in others])

    def test_a_place_with_roads_and_a_road_with_bars_are_removed(self):
        starts_only = Map(day=60, kinds=["a"], places=["a", "b"], roads=[("r", "a", "b", 1, (), None)])
        self.assert_none_can_be_made(("unplace", "a"), ("unplace", "b"), chart=starts_only)
        self.assert_none_can_be_made(("unplace", "inn"), ("unplace", "mill"))
        chart = town().without_bar("ring", "ring")
        self.assert_none_can_be_made(("unroad", chart.road("lane")), ("unroad", chart.road("ferry")), chart=chart)
        self.assert_none_can_be_made(("unroad", town().road("ring")))

    def test_another_part_before(self):
        self.assert_none_can_be_made(
            ("minutes", "lane", 4, 6), ("minutes", "x", 5, 6), ("minutes", "inn", 5, 6),
            ("kinds", "lane", ("bus",), ("foot",)), ("kinds", "lane", ("foot", "bus"), ("foot",)),
            ("kinds", "lane", ["bus", "foot"], ("foot",)), ("kinds", "x", (), ("foot",)),
            ("hours", "lane", (), ((0, 60),)), ("hours", "ruin", None, ((0, 60),)), ("hours", "ruin", [], None),
            ("hours", "back", ((0, 29),), None), ("hours", "back", [(0, 30)], None),
            ("hours", "back", ([0, 30],), None), ("hours", "x", None, ()),
        )

    def test_the_same_before_and_after(self):
        self.assert_none_can_be_made(
            ("minutes", "lane", 5, 5), ("kinds", "lane", ("bus", "foot"), ("bus", "foot")), ("kinds", "path", (), ()),
            ("hours", "lane", None, None), ("hours", "ruin", (), ()), ("hours", "back", ((0, 30),), ((0, 30),)),
        )

    def test_parts_that_are_not_written_as_the_map_keeps_them(self):
        self.assert_none_can_be_made(
            ("kinds", "path", (), ("foot", "bus")), ("kinds", "path", (), ["foot"]),
            ("kinds", "lane", ("bus", "foot"), []), ("kinds", "lane", ("bus", "foot"), ["bus", "foot"]),
            ("hours", "lane", None, []), ("hours", "ruin", (), []),
            ("hours", "lane", None, [(0, 9)]), ("hours", "lane", None, ([0, 9],)),
            ("road", ("new", "inn", "mill", 5, ("foot", "bus"), None)),
            ("road", ("new", "inn", "mill", 5, ["foot"], None)),
            ("road", ("new", "inn", "mill", 5, (), [])), ("road", ("new", "inn", "mill", 5, (), ([0, 9],))),
            ("road", ["new", "inn", "mill", 5, (), None]),
        )

    def test_rules_for_maps(self):
        self.assert_none_can_be_made(
            ("place", ""), ("place", "Abbey"), ("place", "a" * 13), ("place", "9a"),
            ("road", ("new", "abbey", "inn", 5, (), None)), ("road", ("new", "inn", "abbey", 5, (), None)),
            ("road", ("a b", "inn", "inn", 5, (), None)), ("road", ("new", "inn", "inn", 0, (), None)),
            ("road", ("new", "inn", "inn", 1001, (), None)), ("road", ("new", "inn", "inn", 5, ("car",), None)),
            ("road", ("new", "inn", "inn", 5, ("bus", "bus"), None)), ("road", ("new", "inn", "inn", 5, (), ((5, 5),))),
            ("road", ("new", "inn", "inn", 5, ())), ("road", ("new", "inn", "inn", 5, (), None, None)), ("road", ()),
            ("minutes", "lane", 5, 0), ("minutes", "lane", 5, 1001), ("minutes", "lane", 5, -5),
            ("kinds", "path", (), ("car",)), ("kinds", "path", (), ("bus", "bus")),
            ("hours", "lane", None, ((0, 61),)), ("hours", "lane", None, ((0, 5), (5, 9))),
            ("hours", "lane", None, ((9, 3),)),
            ("hours", "lane", None, ((0, 1), (2, 3), (4, 5), (6, 7), (8, 9))), ("hours", "lane", None, ((0, 5, 9),)),
            ("bar", "lane", "lane"), ("bar", "lane", "back"), ("bar", "x", "lane"), ("bar", "lane", "x"),
        )

    def test_bounds(self):
        chart = many_parts()
        self.assert_none_can_be_made(
            ("place", "p30"), ("road", ("r60", "p0", "p0", 1, (), None)), ("bar", "r1", "r1"), chart=chart,
        )
        swaps = [
            ("unplace", "p29"), ("place", "p30"), ("unroad", chart.road("r59")),
            ("road", ("r60", "p1", "p1", 1, (), None)), ("unbar", "r0", "r0"), ("bar", "r1", "r1"),
        ]
        self.assertEqual([len(part) for part in fields(applied(chart, swaps))[2:]], [30, 60, 40])
        self.assert_invalid(1, [("unplace", "p29"), ("bar", "r1", "r1"), ("place", "p30")], chart)

    def test_random_changes(self):
        found = {}
        for seed in range(250):
            chance = random.Random(seed)
            chart = random_map(seed, places=4, roads=5, bars=3)
            changes, expected = [], chart
            for number in range(8):
                changes.append(random_change(chance, expected))
                behind = behind_change(expected, changes[-1])
                key = (changes[-1][0], behind is not None)
                found[key] = found.get(key, 0) + 1
                if behind is None:
                    self.assert_invalid(number, [*changes, random_change(chance, expected)], chart)
                    break
                expected = behind
                self.assertEqual(fields(applied(chart, changes)), fields(expected))
        self.assertEqual(len(found), 18, found)


class TakenBackTest(SetsTest):
    def test_each_change(self):
        road = ("r", "a", "b", 1, (), None)
        pairs = [
            (("place", "a"), ("unplace", "a")), (("road", road), ("unroad", road)),
            (("bar", "r", "s"), ("unbar", "r", "s")), (("minutes", "r", 1, 2), ("minutes", "r", 2, 1)),
            (("kinds", "r", (), ("bus",)), ("kinds", "r", ("bus",), ())),
            (("hours", "r", None, ()), ("hours", "r", (), None)),
        ]
        for one, other in pairs:
            self.assertEqual(taken_back([one]), [other])
            self.assertEqual(taken_back([other]), [one])

    def test_turned_order(self):
        changes = [("place", "a"), ("minutes", "r", 1, 2), ("unbar", "r", "s")]
        self.assertEqual(taken_back(changes), [("bar", "r", "s"), ("minutes", "r", 2, 1), ("unplace", "a")])
        self.assertEqual(taken_back(tuple(changes)), taken_back(changes))
        self.assertEqual(taken_back([]), [])

    def test_back_to_the_map_ahead(self):
        for change in CHANGES:
            self.assertEqual(fields(applied(applied(town(), [change]), taken_back([change]))), fields(town()))
        for seed in range(120):
            chart = random_map(seed, places=4, roads=5, bars=3)
            changes = random_set(random.Random(seed), chart, 8)
            self.assertEqual(fields(applied(applied(chart, changes), taken_back(changes))), fields(chart))
            self.assertEqual(taken_back(taken_back(changes)), changes)

    def test_the_changes_stay(self):
        changes = list(CHANGES)
        taken_back(changes).clear()
        self.assertEqual(changes, CHANGES)
        self.assertEqual(taken_back(changes), taken_back(CHANGES))


class ThingsTest(SetsTest):
    def test_what_each_change_touches_and_leans_on(self):
        road = ("r", "b", "a", 1, ("bus",), None)
        table = {
            ("place", "a"): (("place", "a"), []),
            ("unplace", "a"): (("place", "a"), []),
            ("road", road): (("road", "r"), [("place", "a"), ("place", "b")]),
            ("unroad", road): (("road", "r"), [("place", "a"), ("place", "b")]),
            ("road", ("r", "a", "a", 1, (), None)): (("road", "r"), [("place", "a")]),
            ("minutes", "r", 1, 2): (("road", "r"), []),
            ("kinds", "r", ("a",), ("b",)): (("road", "r"), []),
            ("hours", "r", None, ()): (("road", "r"), []),
            ("bar", "s", "r"): (("bar", "s", "r"), [("road", "r"), ("road", "s")]),
            ("unbar", "s", "r"): (("bar", "s", "r"), [("road", "r"), ("road", "s")]),
            ("bar", "r", "r"): (("bar", "r", "r"), [("road", "r")]),
        }
        for change, (thing, below) in table.items():
            with self.subTest(change=change):
                self.assertEqual(touched([change]), [thing])
                self.assertEqual(leaned_on([change]), below)

    def test_ascending_and_each_once(self):
        changes = [
            ("minutes", "s", 1, 2), ("place", "b"), ("bar", "s", "r"), ("kinds", "s", (), ("a",)), ("place", "a"),
            ("bar", "r", "s"), ("unplace", "b"), ("road", ("r", "b", "a", 1, (), None)), ("minutes", "r10", 1, 2),
            ("minutes", "r2", 1, 2),
        ]
        self.assertEqual(touched(changes), [
            ("bar", "r", "s"), ("bar", "s", "r"), ("place", "a"), ("place", "b"), ("road", "r"), ("road", "r10"),
            ("road", "r2"), ("road", "s"),
        ])
        self.assertEqual(leaned_on(changes), [("place", "a"), ("place", "b"), ("road", "r"), ("road", "s")])
        self.assertEqual(touched(tuple(changes)), touched(changes))
        self.assertEqual((touched([]), leaned_on([])), ([], []))

    def test_random_sets(self):
        for seed in range(60):
            changes = random_set(random.Random(seed), random_map(seed, places=4, roads=5, bars=3), 9)
            self.assertEqual(touched(changes), sorted({touched_thing(change) for change in changes}))
            below = {thing for change in changes for thing in things_below(change)}
            self.assertEqual(leaned_on(changes), sorted(below))

    def test_new_lists(self):
        for question in (touched, leaned_on):
            changes = list(CHANGES)
            answer = question(changes)
            kept = list(answer)
            answer.append("more")
            self.assertEqual(question(changes), kept)
            self.assertEqual(changes, CHANGES)


class ClashesTest(SetsTest):
    def assert_clash(self, things, changes, others):
        """Look at the clashes whichever set comes first."""
        for one, other in ((changes, others), (others, changes), (tuple(changes), tuple(others))):
            self.assertEqual(clashes(one, other), things)
            self.assertIs(are_apart(one, other), things == [])

    def test_example_of_the_interface(self):
        self.assert_clash([("road", "high")], [("minutes", "high", 5, 7)], [("bar", "high", "low"), ("place", "inn")])

    def test_both_touch(self):
        self.assert_clash([("place", "a")], [("place", "a")], [("place", "a")])
        self.assert_clash([("place", "a")], [("place", "a")], [("unplace", "a")])
        self.assert_clash([("road", "r")], [("minutes", "r", 1, 2)], [("kinds", "r", (), ("a",))])
        self.assert_clash([("road", "r")], [("minutes", "r", 1, 2)], [("unroad", ("r", "a", "b", 1, (), None))])
        self.assert_clash([("bar", "r", "s")], [("bar", "r", "s")], [("unbar", "r", "s")])

    def test_one_touches_what_the_other_one_leans_on(self):
        road = ("r", "a", "b", 1, (), None)
        self.assert_clash([("place", "a")], [("unplace", "a")], [("road", road)])
        self.assert_clash([("place", "b")], [("place", "b")], [("unroad", road)])
        self.assert_clash([("place", "a"), ("place", "b")], [("place", "b"), ("place", "a")], [("unroad", road)])
        for bar in ("bar", "unbar"):
            self.assert_clash([("road", "r")], [("unroad", road)], [(bar, "r", "s")])
            self.assert_clash([("road", "r")], [("hours", "r", None, ())], [(bar, "s", "r")])

    def test_both_lean_on_the_same(self):
        self.assert_clash([], [("road", ("r", "a", "b", 1, (), None))], [("unroad", ("s", "b", "a", 1, (), None))])
        self.assert_clash([], [("bar", "r", "s")], [("bar", "s", "r")])
        self.assert_clash([], [("bar", "r", "s")], [("unbar", "r", "r")])

    def test_names_of_other_sorts(self):
        self.assert_clash([], [("place", "r")], [("minutes", "r", 1, 2)])
        self.assert_clash([], [("place", "r")], [("bar", "r", "s")])

    def test_no_changes(self):
        self.assert_clash([], [], [])
        self.assert_clash([], [], CHANGES)

    def test_within_a_set_nothing_clashes(self):
        self.assert_clash([], [("place", "a"), ("road", ("r", "a", "a", 1, (), None))], [("place", "b")])

    def test_ascending_and_each_once(self):
        road = ("r", "a", "b", 1, (), None)
        one = [("unbar", "r", "s"), ("minutes", "s", 1, 2), ("unroad", road), ("unplace", "b"), ("unplace", "a")]
        other = [("bar", "s", "r"), ("place", "b"), ("road", ("t", "b", "a", 1, (), None)), ("kinds", "r", (), ("k",))]
        things = [("place", "a"), ("place", "b"), ("road", "r"), ("road", "s")]
        self.assert_clash(things, one, other)
        self.assert_clash([("bar", "r", "s"), *things], one, [*other, ("bar", "r", "s")])

    def test_random_sets(self):
        for seed in range(150):
            chance = random.Random(seed)
            chart = random_map(seed, places=4, roads=6, bars=3)
            one, other = random_set(chance, chart, 4), random_set(chance, chart, 4)
            self.assert_clash(things_of_clash(one, other), one, other)

    def test_sets_that_are_apart_can_be_made_in_both_orders(self):
        found = 0
        for seed in range(400):
            chance = random.Random(seed)
            chart = random_map(seed, places=6, roads=8, bars=3)
            one, other = random_set(chance, chart, 4), random_set(chance, chart, 4)
            if are_apart(one, other) and one and other:
                found += 1
                first = applied(applied(chart, one), other)
                second = applied(applied(chart, other), one)
                self.assertEqual(fields(first), fields(second))
        self.assertGreater(found, 50)

    def test_new_lists(self):
        one, other = [("place", "a")], [("unplace", "a")]
        clashes(one, other).append("more")
        self.assertEqual(clashes(one, other), [("place", "a")])
        self.assertEqual((one, other), ([("place", "a")], [("unplace", "a")]))


if __name__ == "__main__":
    unittest.main()
