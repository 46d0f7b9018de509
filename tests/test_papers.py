"""Papers: points 27 to 32, and the interface of waypapers/papers.py."""

import copy
import random
import unittest

from asking import AskingTest
from plain import arrival_of, arrival_over, can_drive, full_map, least_places, next_roads, random_map
from samples import fields, town
from waypapers.maps import Map
from waypapers.papers import Paper, check_paper, paper
from waypapers.routes import earliest, labels

CAR = ["car"]


def pair(hours=((30, 60),), bars=()):
    """Return the map of the first example of the interface, with a road beside it that the car may not use."""
    roads = [
        ("r1", "a", "b", 10, CAR, None), ("r2", "b", "c", 5, CAR, hours), ("bus", "a", "c", 1, ["bus"], None),
        ("far", "d", "c", 1, CAR, None),
    ]
    return Map(day=100, kinds=["bus", "car"], places=["a", "b", "c", "d"], roads=roads, bars=bars)


def least_numbers(lows):
    return {name: min(number for other, number in lows if other == name) for name, _ in lows}


def bounds(chart, kind, start, moment, lows):
    """Tell by the words of point 27 whether labels bound the trips."""
    numbers = least_numbers(lows)
    behind = next_roads(chart, kind, start)
    asked = [(moment, name) for name in behind[None]]
    asked += [(numbers[last], name) for last in numbers for name in behind[last]]
    return all(name in numbers and numbers[name] <= arrival_over(chart, name, there) for there, name in asked)


def is_right(chart, kind, start, goal, moment, told):
    """Tell by the words of point 30 whether a paper is right."""
    if start == goal:
        return (told.roads, told.arrival) == ((), moment)
    if not bounds(chart, kind, start, moment, told.lows):
        return False
    numbers = least_numbers(told.lows)
    ends = [numbers[road[0]] for road in chart.roads if road[2] == goal and road[0] in numbers]
    if told.roads is None or told.arrival is None:
        return told.roads is None and told.arrival is None and not ends
    if not told.roads or not can_drive(chart, kind, start, told.roads) or chart.road(told.roads[-1])[2] != goal:
        return False
    return arrival_of(chart, told.roads, moment) == told.arrival and all(number >= told.arrival for number in ends)


class PaperTest(AskingTest):
    def test_fields(self):
        told = Paper(["r", "q"], 9, [["r", 4], ("q", 9)])
        self.assertEqual((told.roads, told.arrival, told.lows), (("r", "q"), 9, [("r", 4), ("q", 9)]))
        told = Paper(None, None, ())
        self.assertEqual((told.roads, told.arrival, told.lows), (None, None, []))
        self.assertEqual(Paper((), 0, []).roads, ())

    def test_copies(self):
        roads, label, lows = ["r"], ["r", 4], []
        lows.append(label)
        told = Paper(roads, 4, lows)
        roads.append("q")
        label[1] = 5
        lows.append(("q", 9))
        self.assertEqual((told.roads, told.lows), (("r",), [("r", 4)]))

    def test_example_of_the_interface(self):
        roads = [("r1", "a", "b", 10, ["car"], None), ("r2", "b", "c", 5, ["car"], [(30, 60)])]
        told = paper(Map(day=100, kinds=["car"], places=["a", "b", "c"], roads=roads), "car", "a", "c", 7)
        self.assertEqual((told.roads, told.arrival, told.lows), (("r1", "r2"), 35, [("r1", 17), ("r2", 35)]))

    def test_no_route(self):
        told = paper(pair(), "car", "b", "a", 7)
        self.assertEqual((told.roads, told.arrival, told.lows), (None, None, [("r2", 35)]))
        told = paper(pair(hours=()), "car", "a", "c", 7)
        self.assertEqual((told.roads, told.arrival, told.lows), (None, None, [("r1", 17)]))

    def test_the_goal_is_the_start(self):
        told = paper(pair(), "car", "a", "a", 7)
        self.assertEqual((told.roads, told.arrival, told.lows), ((), 7, [("r1", 17), ("r2", 35)]))

    def test_the_labels_are_those_of_routes(self):
        for seed in range(60):
            chart = random_map(seed, places=4, roads=9, bars=6)
            for goal in chart.places:
                told = paper(chart, "car", "p0", goal, seed)
                route = earliest(chart, "car", "p0", goal, seed)
                self.assertEqual(told.lows, labels(chart, "car", "p0", seed))
                self.assertEqual(told.arrival, None if route is None else route.arrival)
                self.assertTrue(is_right(chart, "car", "p0", goal, seed, told))

    def test_unknown_names_in_their_order(self):
        self.assert_unknown("x", paper, pair(), "x", "y", "z", 0)
        self.assert_unknown("y", paper, pair(), "car", "y", "z", 0)
        self.assert_unknown("z", paper, pair(), "car", "a", "z", 0)

    def test_nothing_changes(self):
        one, other = self.assert_nothing_changes(paper, town(), "bus", "inn", "pier", 3)
        self.assertEqual(vars(one), vars(other))
        one.lows.append(("ring", 0))
        self.assertEqual(vars(paper(town(), "bus", "inn", "pier", 3)), vars(other))


class CheckPaperTest(AskingTest):
    def assert_paper(self, expected, roads, arrival, lows, *, chart=None, start="a", goal="c", moment=7):
        chart = pair() if chart is None else chart
        told = Paper(roads, arrival, lows)
        answer = check_paper(chart, "car", start, goal, moment, told)
        self.assertIs(answer, expected)
        self.assertIs(is_right(chart, "car", start, goal, moment, told), expected)

    def test_example_of_the_interface(self):
        chart = Map(day=100, kinds=["car"], places=["a", "b"], roads=[("r1", "a", "b", 10, ["car"], None)])
        self.assertFalse(check_paper(chart, "car", "a", "b", 7, Paper(["r1"], 17, [("r1", 12)])))
        self.assertTrue(check_paper(chart, "car", "b", "a", 7, Paper(None, None, [])))

    def test_a_route_with_its_labels(self):
        self.assert_paper(True, ("r1", "r2"), 35, [("r1", 17), ("r2", 35)])
        self.assert_paper(True, ["r1", "r2"], 35, [["r2", 35], ["r1", 17]])

    def test_a_label_is_left_out(self):
        self.assert_paper(False, ("r1", "r2"), 35, [("r1", 17)])
        self.assert_paper(False, ("r1", "r2"), 35, [("r2", 35)])
        self.assert_paper(False, ("r1", "r2"), 35, [])

    def test_a_label_is_less(self):
        # Any number from which the next road is entered no earlier does as well.
        for number in (16, 0, -1, -40):
            self.assert_paper(True, ("r1", "r2"), 35, [("r1", number), ("r2", 35)])
        self.assert_paper(False, ("r1", "r2"), 35, [("r1", -41), ("r2", 35)])
        self.assert_paper(False, ("r1", "r2"), 35, [("r1", 17), ("r2", 34)])
        self.assert_paper(False, ("r1", "r2"), 35, [("r1", 17), ("r2", -1)])

    def test_a_label_is_more(self):
        self.assert_paper(False, ("r1", "r2"), 35, [("r1", 18), ("r2", 35)])
        self.assert_paper(False, ("r1", "r2"), 35, [("r1", 17), ("r2", 36)])

    def test_numbers_below_0(self):
        always = pair(hours=None)
        self.assert_paper(True, ("r1", "r2"), 22, [("r1", 17), ("r2", 22)], chart=always)
        self.assert_paper(False, ("r1", "r2"), 22, [("r1", -1), ("r2", 22)], chart=always)
        self.assert_paper(True, None, None, [("r1", -9), ("r2", -4)], chart=always, goal="d")
        self.assert_paper(False, None, None, [("r1", -9), ("r2", -3)], chart=always, goal="d")

    def test_labels_of_roads_that_nothing_comes_to(self):
        for number in (-1000, -1, 0, 7, 10 ** 9):
            # The road bus leads to the goal: no number of it may be less than the arrival.
            expected = number >= 35
            self.assert_paper(expected, ("r1", "r2"), 35, [("r1", 17), ("r2", 35), ("bus", number)])
            self.assert_paper(expected, ("r1", "r2"), 35, [("far", number), ("r1", 17), ("r2", 35)])
            self.assert_paper(True, None, None, [("far", number), ("r2", 35)], start="b", goal="a")

    def test_a_label_of_a_strange_road_binds_the_roads_behind_it(self):
        roads = [("q", "d", "b", 5, ["bus"], None), ("r", "b", "c", 5, CAR, None), ("s", "c", "d", 5, CAR, None)]
        chart = Map(day=100, kinds=["bus", "car"], places=["a", "b", "c", "d"], roads=roads)
        self.assert_paper(True, None, None, [], chart=chart)
        self.assert_paper(False, None, None, [("q", 50)], chart=chart, goal="b")
        self.assert_paper(False, None, None, [("q", 50)], chart=chart, goal="d")
        self.assert_paper(False, None, None, [("q", 50), ("r", 55), ("s", 60)], chart=chart, goal="d")
        roads = [("q", "d", "b", 5, ["bus"], None), ("r", "b", "c", 5, CAR, None)]
        chart = Map(day=100, kinds=["bus", "car"], places=["a", "b", "c", "d"], roads=roads)
        self.assert_paper(True, None, None, [("q", 50), ("r", 55)], chart=chart, goal="d")
        self.assert_paper(True, None, None, [("q", 50), ("r", -55)], chart=chart, goal="d")
        self.assert_paper(False, None, None, [("q", 50), ("r", 56)], chart=chart, goal="d")
        self.assert_paper(False, None, None, [("q", 50)], chart=chart, goal="d")

    def test_several_numbers_of_a_road(self):
        for lows in ([("r1", 17), ("r1", 99), ("r2", 35)], [("r1", 99), ("r2", 35), ("r1", 17), ("r2", 36)]):
            self.assert_paper(True, ("r1", "r2"), 35, lows)
        for lows in ([("r2", 34), ("r1", 17), ("r2", 35)], [("r1", 18), ("r2", 35), ("r1", 99)]):
            self.assert_paper(False, ("r1", "r2"), 35, lows)

    def test_another_route(self):
        lows = [("r1", 17), ("r2", 35)]
        for roads in ((), ("r1",), ("r2",), ("r2", "r1"), ("r1", "r1", "r2"), ("r1", "r2", "r2"), ("bus",), ("far",)):
            for arrival in (7, 8, 17, 35):
                self.assert_paper(False, roads, arrival, lows)

    def test_another_arrival(self):
        for arrival in (0, 34, 36, 135, -35):
            self.assert_paper(False, ("r1", "r2"), arrival, [("r1", 17), ("r2", 35)])

    def test_a_route_that_arrives_later(self):
        chart = pair().with_road(("slow", "a", "c", 60, CAR, None))
        lows = [("r1", 17), ("r2", 35), ("slow", 67)]
        self.assert_paper(True, ("r1", "r2"), 35, lows, chart=chart)
        self.assert_paper(False, ("slow",), 67, lows, chart=chart)
        self.assert_paper(False, ("slow",), 67, [("r1", 17), ("r2", 67), ("slow", 67)], chart=chart)

    def test_a_barred_route(self):
        chart = pair(bars=[("r1", "r2")])
        self.assert_paper(False, ("r1", "r2"), 35, [("r1", 17), ("r2", 35)], chart=chart)
        self.assert_paper(True, None, None, [("r1", 17)], chart=chart)

    def test_a_road_that_may_not_be_used_bounds_nothing(self):
        chart = pair(hours=())
        self.assert_paper(False, ("r1", "r2"), 35, [("r1", 17), ("r2", 35)], chart=chart)
        self.assert_paper(True, None, None, [("r1", 17)], chart=chart)
        self.assert_paper(False, None, None, [("r1", 17), ("r2", 35)], chart=chart)
        self.assert_paper(False, ("bus",), 8, [("r1", 17), ("r2", 8), ("bus", 8)])

    def test_no_route(self):
        self.assert_paper(True, None, None, [("r1", 17), ("r2", 35)], goal="d")
        self.assert_paper(False, None, None, [("r1", 17)], goal="d")
        self.assert_paper(False, None, None, [("r1", 17), ("r2", 36)], goal="d")
        self.assert_paper(False, None, None, [("r1", 17), ("r2", 35)])
        self.assert_paper(False, None, None, [], goal="c")

    def test_a_number_of_a_road_to_the_goal_without_a_route(self):
        self.assert_paper(True, None, None, [("r2", 35)], start="b", goal="a")
        self.assert_paper(False, None, None, [("r2", 35), ("r1", 10 ** 9)], start="b", goal="b")
        self.assert_paper(False, None, None, [("r1", 17), ("r2", 35), ("far", 99)], start="a", goal="c")

    def test_roads_without_an_arrival_and_the_other_way_round(self):
        for goal in ("c", "d"):
            self.assert_paper(False, None, 35, [("r1", 17), ("r2", 35)], goal=goal)
            self.assert_paper(False, ("r1", "r2"), None, [("r1", 17), ("r2", 35)], goal=goal)
            self.assert_paper(False, (), None, [("r1", 17), ("r2", 35)], goal=goal)
        self.assert_paper(False, None, 7, [("r1", 17), ("r2", 35)], goal="d")

    def test_the_empty_route_for_another_goal(self):
        self.assert_paper(False, (), 7, [("r1", 17), ("r2", 35)])
        self.assert_paper(False, (), 7, [("r1", 17), ("r2", 35)], goal="d")
        self.assert_paper(False, (), 35, [("r1", 17), ("r2", 35)])

    def test_the_goal_is_the_start(self):
        for lows in ([], [("r1", 17), ("r2", 35)], [("r1", 99)], [("far", -1)]):
            self.assert_paper(True, (), 7, lows, goal="a")
            self.assert_paper(False, (), 8, lows, goal="a")
            self.assert_paper(False, (), None, lows, goal="a")
            self.assert_paper(False, None, None, lows, goal="a")
            self.assert_paper(False, None, 7, lows, goal="a")
        chart = pair().with_road(("ring", "a", "a", 1, CAR, None))
        self.assert_paper(False, ("ring",), 8, labels(chart, "car", "a", 7), chart=chart, goal="a")

    def test_another_kind_start_moment_or_goal(self):
        told = Paper(("r1", "r2"), 35, [("r1", 17), ("r2", 35)])
        self.assertTrue(check_paper(pair(), "car", "a", "c", 7, told))
        self.assertFalse(check_paper(pair(), "bus", "a", "c", 7, told))
        self.assertFalse(check_paper(pair(), "car", "b", "c", 7, told))
        self.assertFalse(check_paper(pair(), "car", "a", "b", 7, told))
        # A later start that comes to the second road as early is told by the very same labels.
        self.assertTrue(check_paper(pair(), "car", "a", "c", 20, told))
        self.assertFalse(check_paper(pair(), "car", "a", "c", 6, told))
        self.assertFalse(check_paper(pair(), "car", "a", "c", 21, told))

    def test_unknown_names_in_their_order(self):
        told = Paper(("r1", "s1", "s2"), None, [("r1", 1), ("s3", 2), ("s4", 3)])
        self.assert_unknown("x", check_paper, pair(), "x", "y", "z", 0, told)
        self.assert_unknown("y", check_paper, pair(), "car", "y", "z", 0, told)
        self.assert_unknown("z", check_paper, pair(), "car", "a", "z", 0, told)
        self.assert_unknown("s1", check_paper, pair(), "car", "a", "c", 0, told)
        self.assert_unknown("s3", check_paper, pair(), "car", "a", "c", 0, Paper(("r1",), 0, told.lows))
        self.assert_unknown("s4", check_paper, pair(), "car", "a", "c", 0, Paper(None, 0, told.lows[2:]))
        # They come first, also where the labels do not matter.
        self.assert_unknown("s3", check_paper, pair(), "car", "a", "a", 0, Paper((), 0, told.lows))
        self.assert_unknown("a", check_paper, pair(), "car", "a", "a", 0, Paper(("a",), 0, []))

    def test_nothing_changes(self):
        chart = pair()
        told = Paper(("r1", "r2"), 35, [("r2", 36), ("r1", 17), ("r2", 35)])
        before, kept = fields(chart), copy.deepcopy(vars(told))
        self.assertTrue(check_paper(chart, "car", "a", "c", 7, told))
        self.assertTrue(check_paper(chart, "car", "a", "c", 7, told))
        self.assertEqual((fields(chart), vars(told)), (before, kept))


class RandomPapersTest(AskingTest):
    def changed_papers(self, chance, chart, told):
        """Return papers with one or two faults, and the paper without one."""
        rows = [(told.roads, told.arrival, told.lows)]
        for name in chart.road_names:
            number = dict(told.lows).get(name, told.arrival or 0) + chance.choice([-70, -2, -1, 0, 1, 2, 61])
            rows.append((told.roads, told.arrival, [low for low in told.lows if low[0] != name]))
            rows.append((told.roads, told.arrival, [*told.lows, (name, number)]))
            rows.append((told.roads, told.arrival, [low for low in told.lows if low[0] != name] + [(name, number)]))
            rows.append(((*(told.roads or ()), name), told.arrival, told.lows))
        late = chance.randint(1, 90)
        rows.append((told.roads, told.arrival, [(name, number - late) for name, number in told.lows]))
        rows.append((told.roads, (told.arrival or 0) + chance.choice([-1, 1]), told.lows))
        rows.append(((told.roads or ())[1:], told.arrival, told.lows))
        rows.append(((told.roads or ())[:-1], told.arrival, told.lows))
        rows.append((None, None, told.lows))
        return [Paper(*row) for row in rows]

    def test_papers_with_faults(self):
        found = {True: 0, False: 0}
        for seed in range(60):
            chart = random_map(seed, places=4, roads=7, bars=6)
            chance = random.Random(seed)
            arrivals = least_places(chart, "car", "p0", seed)
            for goal in chart.places:
                right = paper(chart, "car", "p0", goal, seed)
                self.assertTrue(check_paper(chart, "car", "p0", goal, seed, right))
                for told in self.changed_papers(chance, chart, right):
                    answer = check_paper(chart, "car", "p0", goal, seed, told)
                    found[answer] += 1
                    self.assertIs(answer, is_right(chart, "car", "p0", goal, seed, told))
                    if answer:
                        # Point 31: whoever made the paper, it tells the truth.
                        self.assertEqual(told.arrival, arrivals.get(goal))
        self.assertGreater(min(found.values()), 500)

    def test_each_paper_of_full_maps_is_taken(self):
        for seed in range(8):
            chart = full_map(seed)
            for goal in chart.places:
                told = paper(chart, "bus", "p3", goal, 400 * seed)
                self.assertTrue(check_paper(chart, "bus", "p3", goal, 400 * seed, told))


if __name__ == "__main__":
    unittest.main()
