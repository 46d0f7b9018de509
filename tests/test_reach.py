"""What can be come to: points 93 to 100, and the interface of waypapers/reach.py."""

import copy
import random
import unittest

from asking import AskingTest
from plain import full_map, least_places, next_roads, random_map, roads_by_name, routes_up_to
from samples import fields, town
from waypapers.maps import Map
from waypapers.reach import reach_table, reached, rounds_of_roads, traps

CAR = ["car"]


def chain(**parts):
    """Return a map with a way from a by b and c to d, and back from c to b, or one with other parts."""
    told = {
        "day": 100,
        "kinds": ["bus", "car"],
        "places": ["a", "b", "c", "d", "lone"],
        "roads": [
            ("r1", "a", "b", 10, CAR, None), ("r2", "b", "c", 10, CAR, [(90, 91)]), ("r3", "c", "d", 10, CAR, None),
            ("r4", "c", "b", 10, CAR, None), ("r5", "d", "a", 10, ["bus"], None), ("r6", "d", "a", 10, CAR, []),
        ],
    }
    told.update(parts)
    return Map(**told)


def plain_behind(chart, kind):
    """Return a dict of the roads that are come to from each road, by the words of point 97."""
    behind = next_roads(chart, kind, chart.places[0])
    del behind[None]
    met = {name: set(behind[name]) for name in behind}
    changed = True
    while changed:
        changed = False
        for name in met:
            more = {further for last in met[name] for further in behind[last]} - met[name]
            met[name] |= more
            changed = changed or bool(more)
    return met


def plain_rounds(chart, kind):
    """Return the groups of point 98."""
    met = plain_behind(chart, kind)
    rounds = [name for name in chart.road_names if name in met[name]]
    groups = {tuple(other for other in rounds if other in met[name] and name in met[other]) for name in rounds}
    return sorted(groups, key=lambda group: group[0])


class ReachTest(AskingTest):
    def assert_reached(self, chart, place, *expected, kind="car"):
        self.assertEqual(reached(chart, kind, place), list(expected))
        self.assertEqual(sorted(least_places(chart, kind, place, 0)), list(expected))

    def assert_rounds(self, chart, *expected, kind="car"):
        self.assertEqual(rounds_of_roads(chart, kind), list(expected))
        self.assertEqual(plain_rounds(chart, kind), list(expected))


class ReachedTest(ReachTest):
    def test_places(self):
        self.assert_reached(chain(), "a", "a", "b", "c", "d")
        self.assert_reached(chain(), "b", "b", "c", "d")
        self.assert_reached(chain(), "c", "b", "c", "d")
        self.assert_reached(chain(), "d", "d")
        self.assert_reached(chain(), "d", "a", "d", kind="bus")

    def test_a_place_itself(self):
        self.assert_reached(chain(), "lone", "lone")
        self.assert_reached(Map(day=1, kinds=CAR, places=["x"]), "x", "x")
        self.assert_reached(chain(), "a", "a", kind="bus")

    def test_loops(self):
        ring = chain(roads=[("r", "b", "b", 1, CAR, None), ("s", "b", "a", 1, CAR, None)])
        self.assert_reached(ring, "b", "a", "b")
        self.assert_reached(ring, "a", "a")

    def test_roads_that_are_never_open_or_not_for_the_kind(self):
        self.assert_reached(chain().with_hours("r2", []), "a", "a", "b")
        self.assert_reached(chain().with_hours("r2", [(0, 1)]), "a", "a", "b", "c", "d")
        self.assert_reached(chain().with_hours("r6", [(0, 1)]), "d", "a", "b", "c", "d")
        self.assert_reached(chain().with_road(("r2", "b", "c", 10, ["bus"], None)), "a", "a", "b")
        self.assert_reached(chain().with_road(("r2", "b", "c", 10, [], None)), "a", "a", "b")

    def test_bars_that_cut_a_way(self):
        barred = chain(bars=[("r2", "r3")])
        self.assert_reached(barred, "a", "a", "b", "c")
        self.assert_reached(barred, "c", "b", "c", "d")
        # The way by another road into the place is free.
        self.assert_reached(barred.with_road(("r7", "a", "c", 10, CAR, None)), "a", "a", "b", "c", "d")
        # A turn round leads by another road, too.
        ring = barred.with_road(("r8", "c", "c", 1, CAR, None))
        self.assert_reached(ring, "a", "a", "b", "c", "d")
        self.assert_reached(ring.with_bar("r8", "r3"), "a", "a", "b", "c")

    def test_bars_that_cut_only_a_round(self):
        barred = chain(bars=[("r2", "r4"), ("r4", "r2")])
        for place in chain().places:
            self.assertEqual(reached(barred, "car", place), reached(chain(), "car", place))

    def test_steps_that_do_not_add_up(self):
        # Point 95: c is come to from b, and b from a, but c is not come to from a.
        barred = chain(bars=[("r1", "r2")])
        self.assertIn("b", reached(barred, "car", "a"))
        self.assertIn("c", reached(barred, "car", "b"))
        self.assertNotIn("c", reached(barred, "car", "a"))

    def test_random_maps(self):
        for seed in range(60):
            chart = random_map(seed, places=5, roads=8, bars=5)
            for place in chart.places:
                expected = sorted(least_places(chart, "car", place, seed))
                self.assertEqual(reached(chart, "car", place), expected)

    def test_routes_of_small_maps(self):
        for seed in range(30):
            chart = random_map(seed, places=3, roads=5, bars=4)
            ends = {name: road[2] for name, road in roads_by_name(chart).items()}
            routes = routes_up_to(chart, "car", "p0", 5)
            met = {ends[route[-1]] for route in routes if route} | {"p0"}
            self.assertEqual(reached(chart, "car", "p0"), sorted(met))

    def test_unknown_names_in_their_order(self):
        self.assert_unknown("x", reached, chain(), "x", "y")
        self.assert_unknown("y", reached, chain(), "car", "y")
        self.assert_unknown("r1", reached, chain(), "car", "r1")
        # Also where there are no roads to look at.
        for question in (reached, traps):
            self.assert_unknown("x", question, chain(roads=[]), "x", "a")
            self.assert_unknown("y", question, chain(roads=[]), "car", "y")
            self.assert_unknown("x", question, Map(day=1, kinds=CAR), "x", "y")

    def test_nothing_changes(self):
        self.assert_nothing_changes(reached, town(), "bus", "inn")
        self.assert_new_lists(reached, town(), "bus", "inn")


class ReachTableTest(ReachTest):
    def test_table(self):
        self.assertEqual(reach_table(chain(), "car"), [
            ("a", ("a", "b", "c", "d")), ("b", ("b", "c", "d")), ("c", ("b", "c", "d")), ("d", ("d",)),
            ("lone", ("lone",)),
        ])
        self.assertEqual(reach_table(chain(), "bus"), [
            ("a", ("a",)), ("b", ("b",)), ("c", ("c",)), ("d", ("a", "d")), ("lone", ("lone",)),
        ])
        self.assertEqual(reach_table(Map(day=1, kinds=CAR), "car"), [])

    def test_against_reached(self):
        for seed in range(30):
            chart = random_map(seed, places=5, roads=8, bars=5)
            expected = [(place, tuple(reached(chart, "car", place))) for place in chart.places]
            self.assertEqual(reach_table(chart, "car"), expected)
        chart = full_map(1)
        expected = [(place, tuple(reached(chart, "bus", place))) for place in chart.places]
        self.assertEqual(reach_table(chart, "bus"), expected)

    def test_unknown_names(self):
        self.assert_unknown("x", reach_table, chain(), "x")
        self.assert_unknown("x", reach_table, Map(day=1, kinds=CAR), "x")

    def test_nothing_changes(self):
        self.assert_nothing_changes(reach_table, town(), "bus")
        self.assert_new_lists(reach_table, town(), "bus")


class TrapsTest(ReachTest):
    def test_example_of_the_interface(self):
        chart = Map(day=100, kinds=["car"], places=["a", "b"], roads=[("r1", "a", "b", 10, ["car"], None)])
        self.assertEqual((traps(chart, "car", "a"), traps(chart, "car", "b")), (["b"], []))

    def test_traps(self):
        self.assertEqual(traps(chain(), "car", "a"), ["b", "c", "d"])
        self.assertEqual(traps(chain(), "car", "b"), ["d"])
        self.assertEqual(traps(chain(), "car", "c"), ["d"])
        self.assertEqual(traps(chain(), "car", "d"), [])
        self.assertEqual(traps(chain(), "car", "lone"), [])
        self.assertEqual(traps(chain(), "bus", "d"), ["a"])

    def test_a_home_is_no_trap(self):
        self.assertEqual(traps(chain(roads=[("r", "a", "a", 1, CAR, None)]), "car", "a"), [])

    def test_bars(self):
        # From d a trip comes back to the home, but not the one that comes from the home: d is no trap all the same.
        roads = [("r1", "a", "d", 10, CAR, None), ("r2", "d", "a", 10, CAR, None)]
        self.assertEqual(traps(chain(roads=roads, bars=[("r1", "r2")]), "car", "a"), [])
        self.assertEqual(traps(chain(roads=roads).with_hours("r2", []), "car", "a"), ["d"])
        # What is come to from a trap need not be come to from the home.
        roads = [("r1", "a", "b", 10, CAR, None), ("r2", "b", "c", 10, CAR, None)]
        self.assertEqual(traps(chain(roads=roads, bars=[("r1", "r2")]), "car", "a"), ["b"])

    def test_random_maps(self):
        for seed in range(40):
            chart = random_map(seed, places=5, roads=8, bars=5)
            table = {place: least_places(chart, "car", place, 0) for place in chart.places}
            for home in chart.places:
                expected = [place for place in chart.places if place in table[home] and home not in table[place]]
                self.assertEqual(traps(chart, "car", home), expected)

    def test_unknown_names_in_their_order(self):
        self.assert_unknown("x", traps, chain(), "x", "y")
        self.assert_unknown("y", traps, chain(), "car", "y")

    def test_nothing_changes(self):
        self.assert_nothing_changes(traps, town(), "bus", "inn")
        self.assert_new_lists(traps, chain(), "car", "a")


class RoundsOfRoadsTest(ReachTest):
    def test_example_of_the_interface(self):
        roads = [("r1", "a", "b", 10, CAR, None), ("r2", "b", "a", 10, CAR, None), ("r3", "a", "a", 1, CAR, None)]
        chart = Map(day=100, kinds=CAR, places=["a", "b"], roads=roads, bars=[("r2", "r3")])
        self.assert_rounds(chart, ("r1", "r2"), ("r3",))
        # Without the bar all of them are one group.
        self.assert_rounds(chart.without_bar("r2", "r3"), ("r1", "r2", "r3"))
        self.assert_rounds(chart.with_bar("r3", "r3"), ("r1", "r2"))

    def test_no_rounds(self):
        self.assert_rounds(chain(roads=[]))
        self.assert_rounds(chain(), kind="bus")
        self.assert_rounds(chain().without_road("r4"))
        self.assertEqual(rounds_of_roads(Map(day=1, kinds=CAR), "car"), [])

    def test_roads_on_no_round(self):
        # r1 leads to the round, and r3 away from it.
        self.assert_rounds(chain(), ("r2", "r4"))

    def test_a_road_that_is_barred_behind_itself(self):
        ring = chain(roads=[("r", "a", "a", 1, CAR, None)])
        self.assert_rounds(ring, ("r",))
        self.assert_rounds(ring.with_bar("r", "r"))
        # Two rings at one place come to themselves by the other one.
        two = ring.with_road(("s", "a", "a", 1, CAR, None)).with_bar("r", "r")
        self.assert_rounds(two, ("r", "s"))
        self.assert_rounds(two.with_bar("s", "s"), ("r", "s"))
        self.assert_rounds(two.with_bar("r", "s"), ("s",))
        self.assert_rounds(two.with_bar("s", "r"), ("s",))
        self.assert_rounds(two.with_bar("s", "s").with_bar("s", "r"))

    def test_roads_that_the_kind_can_never_enter(self):
        self.assert_rounds(chain().with_hours("r4", []))
        self.assert_rounds(chain().with_hours("r4", [(99, 100)]), ("r2", "r4"))
        self.assert_rounds(chain().with_road(("r4", "c", "b", 10, ["bus"], None)))
        self.assert_rounds(chain(roads=[("r", "a", "a", 1, ["bus"], None)]))
        self.assert_rounds(chain(roads=[("r", "a", "a", 1, CAR, [])]))
        self.assert_rounds(chain(roads=[("r", "a", "a", 1, ["bus"], None)]), ("r",), kind="bus")
        # A road that the kind may not use starts no round, though it leads to one.
        roads = [*chain().roads, ("r0", "c", "b", 10, ["bus"], None)]
        self.assert_rounds(chain(roads=roads), ("r2", "r4"))

    def test_a_bar_that_cuts_a_round(self):
        self.assert_rounds(chain(bars=[("r2", "r4")]))
        self.assert_rounds(chain(bars=[("r4", "r2")]))
        # The way round goes by a ring.
        roads = [*chain().roads, ("r9", "c", "c", 1, CAR, None)]
        self.assert_rounds(chain(roads=roads, bars=[("r2", "r4"), ("r9", "r9")]), ("r2", "r4", "r9"))

    def test_groups_in_the_order_of_their_first_roads(self):
        roads = [
            ("a9", "c", "b", 1, CAR, None), ("b1", "a", "d", 1, CAR, None), ("b2", "lone", "lone", 1, CAR, None),
            ("c1", "b", "c", 1, CAR, None), ("z1", "d", "a", 1, CAR, None), ("q", "a", "b", 1, CAR, None),
        ]
        self.assert_rounds(chain(roads=roads), ("a9", "c1"), ("b1", "z1"), ("b2",))

    def test_groups_of_one_place(self):
        # Two rounds by one place whose turns into one another are barred.
        roads = [
            ("r1", "a", "b", 1, CAR, None), ("r2", "b", "a", 1, CAR, None), ("s1", "a", "c", 1, CAR, None),
            ("s2", "c", "a", 1, CAR, None),
        ]
        self.assert_rounds(chain(roads=roads), ("r1", "r2", "s1", "s2"))
        # From the one round the other one is come to, but not back.
        self.assert_rounds(chain(roads=roads, bars=[("r2", "s1")]), ("r1", "r2"), ("s1", "s2"))
        self.assert_rounds(chain(roads=roads, bars=[("r2", "s1"), ("s2", "r1")]), ("r1", "r2"), ("s1", "s2"))
        self.assert_rounds(chain(roads=roads, bars=[("r2", "r1")]), ("r1", "r2", "s1", "s2"))
        self.assert_rounds(chain(roads=roads, bars=[("r2", "r1"), ("s2", "s1")]), ("r1", "r2", "s1", "s2"))

    def test_random_maps(self):
        found = {}
        for seed in range(150):
            chart = random_map(seed, places=4, roads=9, bars=8)
            groups = rounds_of_roads(chart, "car")
            self.assertEqual(groups, plain_rounds(chart, "car"))
            names = [name for group in groups for name in group]
            self.assertEqual(len(names), len(set(names)))
            found[len(groups)] = found.get(len(groups), 0) + 1
        self.assertTrue(all(found.get(many, 0) > 5 for many in (0, 1, 2)), found)
        for seed in range(4):
            self.assertEqual(rounds_of_roads(full_map(seed), "bus"), plain_rounds(full_map(seed), "bus"))

    def test_who_drives_for_ever_stays_in_a_group(self):
        # Point 99: the last roads of a long drive are all in one group.
        for seed in range(60):
            chance = random.Random(seed)
            chart = random_map(seed, places=4, roads=9, bars=6)
            behind = next_roads(chart, "car", "p0")
            group_of = {name: group for group in rounds_of_roads(chart, "car") for name in group}
            last, drive = None, []
            while behind[last] and len(drive) < 600:
                last = chance.choice(behind[last])
                drive.append(last)
            if len(drive) == 600:
                self.assertEqual(len({group_of.get(name) for name in drive[-50:]} - {None}), 1)
                self.assertTrue(all(name in group_of for name in drive[-50:]))

    def test_unknown_names(self):
        self.assert_unknown("x", rounds_of_roads, chain(), "x")
        self.assert_unknown("x", rounds_of_roads, Map(day=1, kinds=CAR), "x")

    def test_nothing_changes(self):
        chart, before = chain(), copy.deepcopy(fields(chain()))
        self.assert_new_lists(rounds_of_roads, chart, "car")
        self.assertEqual(fields(chart), before)


if __name__ == "__main__":
    unittest.main()
