"""Ranges: points 87 to 92, and the interface of waypapers/ranges.py."""

import copy
import random
import unittest

from asking import AskingTest
from plain import arrival_over, full_map, least_labels, least_places, next_roads, random_map
from samples import fields, town
from waypapers.maps import Map
from waypapers.ranges import check_range, nearest, range_paper, unreached, within

CAR = ["car"]


def coast():
    """Return the map of the example of the interface."""
    roads = [("r", "a", "b", 9, CAR, None), ("s", "b", "c", 4, CAR, None)]
    return Map(day=60, places=["a", "b", "c"], kinds=CAR, roads=roads, bars=[])


def isles():
    """Return a map with hours, a bar, a road that leads back to a, and roads to which nothing comes."""
    roads = [
        ("back", "b", "a", 2, CAR, None), ("bus", "a", "d", 1, ["bus"], None), ("ferry", "b", "c", 5, CAR, [(30, 40)]),
        ("far", "d", "c", 3, CAR, None), ("lane", "a", "b", 10, CAR, None), ("path", "a", "b", 20, CAR, None),
        ("ruin", "a", "d", 1, CAR, []), ("walk", "b", "e", 7, CAR, None),
    ]
    return Map(day=100, places=["a", "b", "c", "d", "e"], kinds=["bus", "car"], roads=roads, bars=[("lane", "walk")])


def shows(chart, kind, start, moment, minutes, places, paper):
    """Tell by the words of point 89 whether a paper shows that only these places are in the range."""
    bound = moment + minutes
    least = {name: min(label for other, label in paper if other == name) for name, _ in paper}
    ends = {road[0]: road[2] for road in chart.roads}
    behind = next_roads(chart, kind, start)
    asked = [(moment, name) for name in behind[None]]
    for name, label in least.items():
        if label <= bound:
            if ends[name] not in places:
                return False
            asked += [(label, further) for further in behind[name]]
    for there, name in asked:
        arrival = arrival_over(chart, name, there)
        if arrival <= bound and (name not in least or least[name] > arrival):
            return False
    return start in places


class RangesTest(AskingTest):
    def assert_check(self, expected, places, paper, *, chart=None, start="a", moment=0, minutes=40):
        chart = isles() if chart is None else chart
        with self.subTest(places=places, paper=paper):
            told = ("car", start, moment, minutes, places, paper)
            self.assertIs(check_range(chart, *told), expected)
            self.assertIs(shows(chart, *told), expected)


class WithinTest(RangesTest):
    def test_example_of_the_interface(self):
        self.assertEqual(within(coast(), "car", "a", 0, 10), [("a", 0), ("b", 9)])

    def test_bounds_at_and_beside_an_arrival(self):
        rows = [("a", 7), ("b", 16), ("c", 20)]
        for minutes, many in ((0, 1), (8, 1), (9, 2), (10, 2), (12, 2), (13, 3), (14, 3), (100000, 3)):
            self.assertEqual(within(coast(), "car", "a", 7, minutes), rows[:many])

    def test_hours_and_bars(self):
        # The ferry waits until 30, and who takes the lane may not walk on.
        rows = [("a", 0), ("b", 10), ("c", 35), ("e", 27)]
        self.assertEqual(within(isles(), "car", "a", 0, 35), rows)
        self.assertEqual(within(isles(), "car", "a", 0, 34), [("a", 0), ("b", 10), ("e", 27)])
        self.assertEqual(within(isles(), "car", "a", 0, 26), [("a", 0), ("b", 10)])
        self.assertEqual(within(isles(), "car", "a", 35, 100000), [("a", 35), ("b", 45), ("c", 135), ("e", 62)])

    def test_places_that_can_never_be_come_to(self):
        self.assertEqual(within(isles(), "car", "c", 0, 100000), [("c", 0)])
        self.assertEqual(within(isles(), "bus", "a", 0, 100000), [("a", 0), ("d", 1)])

    def test_a_road_that_leads_back_to_the_start(self):
        self.assertEqual(within(isles(), "car", "a", 5, 0), [("a", 5)])
        self.assertEqual(within(isles(), "car", "b", 5, 2), [("a", 7), ("b", 5)])

    def test_random_ranges(self):
        for seed in range(60):
            chart = random_map(seed, places=5, roads=10, bars=5)
            arrivals = least_places(chart, "car", "p1", seed)
            for minutes in [0, 1, 30, 1000, *[arrival - seed for arrival in arrivals.values()]]:
                rows = sorted((place, arrival) for place, arrival in arrivals.items() if arrival <= seed + minutes)
                self.assertEqual(within(chart, "car", "p1", seed, minutes), rows)

    def test_unknown_names_in_their_order(self):
        for question in (within, range_paper):
            self.assert_unknown("x", question, coast(), "x", "y", 0, 10)
            self.assert_unknown("y", question, coast(), "car", "y", 0, 10)

    def test_nothing_changes(self):
        for question in (within, range_paper):
            self.assert_nothing_changes(question, town(), "bus", "inn", 3, 40)
            self.assert_new_lists(question, town(), "bus", "inn", 3, 40)


class RangePaperTest(RangesTest):
    def test_example_of_the_interface(self):
        self.assertEqual(range_paper(coast(), "car", "a", 0, 10), [("r", 9)])

    def test_bounds_at_and_beside_an_arrival(self):
        for minutes, rows in ((0, []), (8, []), (9, [("r", 16)]), (12, [("r", 16)]), (13, [("r", 16), ("s", 20)])):
            self.assertEqual(range_paper(coast(), "car", "a", 7, minutes), rows)

    def test_all_roads_that_arrive_in_time(self):
        # Also roads that lead back, and those to places that are come to earlier.
        rows = [("back", 12), ("ferry", 35), ("lane", 10), ("path", 20), ("walk", 27)]
        self.assertEqual(range_paper(isles(), "car", "a", 0, 35), rows)
        self.assertEqual(range_paper(isles(), "car", "a", 0, 20), [("back", 12), ("lane", 10), ("path", 20)])

    def test_random_papers(self):
        for seed in range(60):
            chart = random_map(seed, places=5, roads=10, bars=5)
            arrivals = least_labels(chart, "car", "p1", seed)
            for minutes in [0, 1, 30, 1000, *[arrival - seed for arrival in arrivals.values()]]:
                rows = sorted((name, arrival) for name, arrival in arrivals.items() if arrival <= seed + minutes)
                self.assertEqual(range_paper(chart, "car", "p1", seed, minutes), rows)


class CheckRangeTest(RangesTest):
    PAPER = [("back", 12), ("ferry", 35), ("lane", 10), ("path", 20), ("walk", 27)]
    PLACES = ["a", "b", "c", "e"]

    def test_example_of_the_interface(self):
        self.assertFalse(check_range(coast(), "car", "a", 0, 10, ["a", "b"], [("r", 5)]))

    def test_the_paper_of_the_range(self):
        self.assert_check(True, self.PLACES, self.PAPER)
        self.assert_check(True, tuple(self.PLACES), tuple(self.PAPER))
        self.assert_check(True, self.PLACES[::-1], self.PAPER[::-1])
        self.assert_check(True, self.PLACES, self.PAPER, minutes=35)
        self.assert_check(True, self.PLACES, self.PAPER, moment=0, minutes=36)

    def test_a_place_is_left_out(self):
        for place in self.PLACES:
            self.assert_check(False, [other for other in self.PLACES if other != place], self.PAPER)
        self.assert_check(False, [], self.PAPER)
        self.assert_check(False, [], [], minutes=0)

    def test_a_place_is_put_in(self):
        # Only what is not in the range is shown.
        self.assert_check(True, [*self.PLACES, "d"], self.PAPER)
        self.assert_check(True, ["a", "b", "c", "d", "e"], [("back", 12), ("lane", 10)], minutes=15)
        self.assert_check(True, [*self.PLACES, *self.PLACES, "a"], self.PAPER)

    def test_the_start_is_one_of_the_places(self):
        self.assert_check(True, ["a"], [], minutes=0)
        self.assert_check(True, ["a"], [], minutes=9)
        self.assert_check(False, ["b"], [], minutes=9)
        self.assert_check(False, ["b", "c", "d", "e"], [], minutes=0)
        self.assert_check(False, ["a"], [], minutes=10)

    def test_a_label_is_left_out(self):
        for name, _ in self.PAPER:
            self.assert_check(False, self.PLACES, [row for row in self.PAPER if row[0] != name])
        # Without the range they reach, labels need not be there.
        self.assert_check(True, ["a", "b"], [("lane", 10), ("back", 12)], minutes=19)
        self.assert_check(False, ["a", "b"], [("lane", 10), ("back", 12)], minutes=20)
        self.assert_check(False, ["a", "b"], [("lane", 10)], minutes=19)
        self.assert_check(True, ["a", "b"], [("lane", 10)], minutes=11)

    def test_a_label_is_too_high(self):
        for at, (name, label) in enumerate(self.PAPER):
            rows = [*self.PAPER[:at], (name, label + 1), *self.PAPER[at + 1:]]
            self.assert_check(False, self.PLACES, rows)

    def test_a_label_is_lower(self):
        # Any label from which nothing else is in the range does as well.
        self.assert_check(True, self.PLACES, [("back", 0), *self.PAPER[1:4], ("walk", 0)], minutes=35)
        rows = [row if row[0] != "lane" else ("lane", 8) for row in self.PAPER[1:]]
        self.assert_check(True, self.PLACES, [*rows, ("back", 10)])
        # From the label 5 of the path, the walk would arrive at 12.
        rows = [row if row[0] != "path" else ("path", 5) for row in self.PAPER]
        self.assert_check(False, self.PLACES, rows)
        rows = [row if row[0] != "walk" else ("walk", 12) for row in rows]
        self.assert_check(False, self.PLACES, rows)
        rows = [row if row[0] != "back" else ("back", 7) for row in rows]
        self.assert_check(True, self.PLACES, rows)
        self.assert_check(True, self.PLACES, [(name, 0) for name, _ in self.PAPER])

    def test_a_label_that_is_too_low_at_the_bound(self):
        # The ferry has to be labelled if the label of the lane lets it arrive in time.
        self.assert_check(True, ["a", "b", "e"], [row for row in self.PAPER if row[0] != "ferry"], minutes=34)
        chart = isles().with_hours("ferry", None)
        rows = [("back", 12), ("lane", 10)]
        self.assert_check(True, ["a", "b"], rows, chart=chart, minutes=14)
        self.assert_check(False, ["a", "b"], [("back", 12), ("lane", 9)], chart=chart, minutes=14)
        self.assert_check(False, ["a", "b"], [("back", 11), ("lane", 9), ("ferry", 14)], chart=chart, minutes=14)
        self.assert_check(True, ["a", "b", "c"], [("back", 11), ("lane", 9), ("ferry", 14)], chart=chart, minutes=14)

    def test_several_labels_of_a_road(self):
        self.assert_check(True, self.PLACES, [("lane", 99), *self.PAPER, ("ferry", 36)])
        self.assert_check(True, self.PLACES, [*self.PAPER, *self.PAPER])
        rows = [("lane", 11), *[row for row in self.PAPER if row[0] != "lane"], ("lane", 99)]
        self.assert_check(False, self.PLACES, rows)
        # The least label counts, also if it is lower than need be: from 0 the way back arrives at 2.
        self.assert_check(False, self.PLACES, [*self.PAPER, ("lane", 0)])
        self.assert_check(True, self.PLACES, [*self.PAPER, ("lane", 0), ("back", 2)])

    def test_labels_beyond_the_bound(self):
        # They show nothing, and they ask for nothing.
        for name in ("back", "ferry", "walk", "far", "bus", "ruin"):
            self.assert_check(True, ["a", "b"], [("lane", 10), (name, 12)], minutes=11)
            expected = name in ("back",)
            self.assert_check(expected, ["a", "b"], [("lane", 10), (name, 11)], minutes=11)
        self.assert_check(False, ["a", "b"], [("lane", 12)], minutes=11)
        self.assert_check(False, ["a", "b", "c", "d", "e"], [("lane", 10), ("back", 13)], minutes=12)
        self.assert_check(True, ["a"], [("lane", 10)], minutes=9)

    def test_labels_of_roads_that_nothing_comes_to(self):
        # Their ends count all the same, and so do the roads behind them.
        self.assert_check(True, self.PLACES, [*self.PAPER, ("far", 0)])
        self.assert_check(True, self.PLACES, [*self.PAPER, ("far", 40)])
        self.assert_check(False, self.PLACES, [*self.PAPER, ("bus", 3)])
        self.assert_check(True, self.PLACES, [*self.PAPER, ("bus", 41)])
        self.assert_check(True, [*self.PLACES, "d"], [*self.PAPER, ("bus", 38)])
        self.assert_check(False, [*self.PLACES, "d"], [*self.PAPER, ("bus", 37)])
        self.assert_check(True, [*self.PLACES, "d"], [*self.PAPER, ("bus", 37), ("far", 40)])
        self.assert_check(False, [*self.PLACES, "d"], [*self.PAPER, ("bus", 37), ("far", 41)])
        self.assert_check(True, [*self.PLACES, "d"], [*self.PAPER, ("ruin", 38)])
        self.assert_check(False, [*self.PLACES, "d"], [*self.PAPER, ("ruin", 0)])

    def test_a_barred_road_needs_no_label(self):
        paper = [("back", 12), ("lane", 10)]
        self.assert_check(True, ["a", "b"], paper, minutes=19)
        chart = isles().without_bar("lane", "walk")
        self.assert_check(False, ["a", "b"], paper, chart=chart, minutes=19)
        self.assert_check(True, ["a", "b"], paper, chart=chart, minutes=16)
        self.assert_check(True, ["a", "b", "e"], [*paper, ("walk", 17)], chart=chart, minutes=19)

    def test_another_moment_and_start(self):
        # A later trip arrives at these labels or behind them, an earlier one ahead of them.
        self.assert_check(True, self.PLACES, self.PAPER, moment=1)
        later = [("back", 17), ("ferry", 35), ("lane", 15), ("path", 25), ("walk", 32)]
        self.assert_check(True, self.PLACES, later, moment=5)
        self.assert_check(False, self.PLACES, later, moment=4)
        self.assert_check(True, ["a", "b"], [("back", 2), ("lane", 12)], start="b", minutes=6)
        self.assert_check(False, ["a", "b"], [("back", 2), ("lane", 12)], start="b", minutes=7)
        self.assert_check(True, ["c"], [], start="c", minutes=100000)

    def test_what_the_module_tells_is_taken(self):
        for seed in range(60):
            chart = random_map(seed, places=5, roads=10, bars=5)
            for minutes in (0, 10, 40, 100, 1000):
                places = [place for place, _ in within(chart, "car", "p1", seed, minutes)]
                paper = range_paper(chart, "car", "p1", seed, minutes)
                self.assertIs(check_range(chart, "car", "p1", seed, minutes, places, paper), True)
                for place in places:
                    others = [other for other in places if other != place]
                    self.assertIs(check_range(chart, "car", "p1", seed, minutes, others, paper), False)
        for seed in range(4):
            chart = full_map(seed)
            places = [place for place, _ in within(chart, "bus", "p3", 400, 700)]
            paper = range_paper(chart, "bus", "p3", 400, 700)
            self.assertIs(check_range(chart, "bus", "p3", 400, 700, places, paper), True)

    def test_random_papers(self):
        found = {True: 0, False: 0}
        for seed in range(400):
            chance = random.Random(seed)
            chart = random_map(seed, places=4, roads=7, bars=5)
            minutes = chance.randint(0, 120)
            paper = range_paper(chart, "car", "p1", seed, minutes)
            for _ in range(chance.randint(0, 2)):
                name = chance.choice(chart.road_names)
                label = dict(paper).get(name, seed + minutes)
                paper = [row for row in paper if row[0] != name or chance.random() < 0.2]
                if chance.random() < 0.8:
                    paper.append((name, max(0, label + chance.choice([-60, -5, -1, 0, 0, 1, 50]))))
            places = [place for place, _ in within(chart, "car", "p1", seed, minutes) if chance.random() < 0.95]
            places += chance.sample(chart.places, chance.randint(0, 1))
            answer = check_range(chart, "car", "p1", seed, minutes, places, paper)
            self.assertIs(answer, shows(chart, "car", "p1", seed, minutes, places, paper))
            found[answer] += 1
            if answer:
                # Point 90: whatever the labels are, no other place is in the range.
                reached = least_places(chart, "car", "p1", seed)
                self.assertTrue(all(place in places for place in reached if reached[place] <= seed + minutes))
        self.assertGreater(min(found.values()), 100, found)

    def test_unknown_names_in_their_order(self):
        paper = [("lane", 10), ("s1", 3), ("s2", 4)]
        self.assert_unknown("x", check_range, isles(), "x", "y", 0, 10, ["z"], paper)
        self.assert_unknown("y", check_range, isles(), "car", "y", 0, 10, ["z"], paper)
        self.assert_unknown("z1", check_range, isles(), "car", "a", 0, 10, ["a", "z1", "z2"], paper)
        self.assert_unknown("s1", check_range, isles(), "car", "a", 0, 10, ["a"], paper)
        self.assert_unknown("s2", check_range, isles(), "car", "a", 0, 10, ["b"], [("s2", 10 ** 6)])
        self.assert_unknown("lane", check_range, isles(), "car", "a", 0, 10, ["lane"], [("a", 1)])

    def test_nothing_changes(self):
        one, other = self.assert_nothing_changes(
            check_range, isles(), "car", "a", 0, 40, list(self.PLACES), [("lane", 99), *self.PAPER],
        )
        self.assertEqual((one, other), (True, True))


class NearestTest(RangesTest):
    def test_the_nearest_of_several_goals(self):
        self.assertEqual(nearest(isles(), "car", "a", ["c", "e"], 0), ("e", 27))
        self.assertEqual(nearest(isles(), "car", "a", ["e", "c"], 0), ("e", 27))
        self.assertEqual(nearest(isles(), "car", "a", ("c", "e", "b"), 0), ("b", 10))
        self.assertEqual(nearest(isles(), "car", "a", ["c"], 0), ("c", 35))
        self.assertEqual(nearest(isles(), "car", "b", ["e", "c"], 28), ("c", 35))
        self.assertEqual(nearest(isles(), "car", "b", ["e", "c"], 27), ("e", 34))

    def test_ties(self):
        # The walk arrives at 35 from 28 on, as the ferry does.
        chart = isles().with_road(("walk", "b", "e", 7, CAR, [(28, 29)]))
        for goals in (["c", "e"], ["e", "c"], ["e", "c", "e"]):
            self.assertEqual(nearest(chart, "car", "b", goals, 0), ("c", 35))
        roads = [("r", "m", "z", 5, CAR, None), ("s", "m", "a9", 5, CAR, None), ("t", "m", "ab", 5, CAR, None)]
        chart = Map(day=60, kinds=CAR, places=["a9", "ab", "m", "z"], roads=roads)
        self.assertEqual(nearest(chart, "car", "m", ["z", "ab", "a9"], 3), ("a9", 8))
        self.assertEqual(nearest(chart, "car", "m", ["z", "ab"], 3), ("ab", 8))

    def test_goals_that_cannot_be_come_to(self):
        self.assertEqual(nearest(isles(), "car", "a", ["d", "c"], 0), ("c", 35))
        self.assertIsNone(nearest(isles(), "car", "a", ["d"], 0))
        self.assertIsNone(nearest(isles(), "car", "c", ["a", "b", "d", "e"], 0))

    def test_no_goals(self):
        self.assertIsNone(nearest(isles(), "car", "a", [], 0))

    def test_the_start_as_a_goal(self):
        self.assertEqual(nearest(isles(), "car", "a", ["b", "a"], 5), ("a", 5))
        self.assertEqual(nearest(isles(), "car", "b", ["b", "a"], 5), ("b", 5))
        self.assertEqual(nearest(isles(), "car", "c", ["a", "c"], 7), ("c", 7))

    def test_random_goals(self):
        for seed in range(60):
            chance = random.Random(seed)
            chart = random_map(seed, places=6, roads=10, bars=5)
            goals = [chance.choice(chart.places) for _ in range(chance.randint(0, 4))]
            arrivals = least_places(chart, "car", "p1", seed)
            rows = [(arrivals[goal], goal) for goal in goals if goal in arrivals]
            expected = min(rows)[::-1] if rows else None
            self.assertEqual(nearest(chart, "car", "p1", goals, seed), expected)

    def test_unknown_names_in_their_order(self):
        self.assert_unknown("x", nearest, coast(), "x", "y", ["z"], 0)
        self.assert_unknown("y", nearest, coast(), "car", "y", ["z"], 0)
        self.assert_unknown("z1", nearest, coast(), "car", "a", ["b", "z1", "a", "z2"], 0)
        self.assert_unknown("x", nearest, coast(), "x", "y", [], 0)
        self.assert_unknown("y", nearest, coast(), "car", "y", [], 0)

    def test_nothing_changes(self):
        self.assertEqual(self.assert_nothing_changes(nearest, isles(), "car", "a", ["e", "c"], 0), (("e", 27),) * 2)


class UnreachedTest(RangesTest):
    def test_places(self):
        self.assertEqual(unreached(isles(), "car", "a"), ["d"])
        self.assertEqual(unreached(isles(), "car", "c"), ["a", "b", "d", "e"])
        self.assertEqual(unreached(isles(), "car", "d"), ["a", "b", "e"])
        self.assertEqual(unreached(isles(), "bus", "a"), ["b", "c", "e"])
        self.assertEqual(unreached(coast(), "car", "a"), [])

    def test_bars_and_hours(self):
        self.assertEqual(unreached(isles().without_road("path"), "car", "a"), ["d", "e"])
        self.assertEqual(unreached(isles().with_hours("ferry", []), "car", "a"), ["c", "d"])
        self.assertEqual(unreached(isles().with_hours("ferry", [(99, 100)]), "car", "a"), ["d"])

    def test_the_moment_makes_no_difference(self):
        for seed in range(60):
            chart = random_map(seed, places=5, roads=7, bars=5)
            for moment in (0, seed, 5000):
                reached = least_places(chart, "car", "p1", moment)
                expected = [place for place in chart.places if place not in reached]
                self.assertEqual(unreached(chart, "car", "p1"), expected)
                rows = within(chart, "car", "p1", moment, 10 ** 6)
                self.assertEqual([place for place, _ in rows], sorted(reached))

    def test_unknown_names_in_their_order(self):
        self.assert_unknown("x", unreached, coast(), "x", "y")
        self.assert_unknown("y", unreached, coast(), "car", "y")

    def test_nothing_changes(self):
        chart, before = isles(), copy.deepcopy(fields(isles()))
        self.assert_new_lists(unreached, chart, "car", "c")
        self.assertEqual(fields(chart), before)


if __name__ == "__main__":
    unittest.main()
