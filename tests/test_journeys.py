"""Meetings and relays: points 83 to 86, and the interface of waypapers/journeys.py."""

import copy
import random
import unittest

from asking import AskingTest
from plain import arrival_of, can_drive, full_map, least_places, random_map
from samples import fields, town
from waypapers.journeys import Meeting, Relay, meeting, meeting_places, relay
from waypapers.maps import Map
from waypapers.routes import Route

CAR = ["car"]


def coast(**parts):
    """Return the map of the example of the interface, or one with other parts."""
    told = {
        "day": 60, "places": ["a", "b", "c"], "kinds": ["car", "bus"],
        "roads": [("r", "a", "b", 9, CAR, None), ("s", "c", "b", 4, CAR, None)],
    }
    told.update(parts)
    return Map(**told)


def star():
    """Return a map with a place m that can be come to from x, y and z, and from which they can be come to."""
    roads = []
    for place, minutes in (("x", 5), ("y", 7), ("z", 9)):
        roads.append((f"to{place}", "m", place, minutes, CAR, None))
        roads.append((f"from{place}", place, "m", minutes, CAR, None))
    return Map(day=60, kinds=CAR, places=["m", "x", "y", "z"], roads=roads)


def random_trips(chance, chart, many):
    kinds = ["bus", "car"]
    return [(chance.choice(kinds), chance.choice(chart.places), chance.randrange(200)) for _ in range(many)]


def plain_common(chart, trips):
    """Return a dict of the least moments at which all trips can be at a place, by the words of point 84."""
    arrivals = [least_places(chart, *trip) for trip in trips]
    common = {}
    for place in chart.places:
        if all(place in row for row in arrivals):
            common[place] = max(row[place] for row in arrivals)
    return common


def plain_relay(chart, one, other, goal):
    """Return the least tuple (arrival, place, handed) of a relay, or None, by a search over all places."""
    rows = []
    for place, handed in plain_common(chart, [one, other]).items():
        arrivals = least_places(chart, other[0], place, handed)
        if goal in arrivals:
            rows.append((arrivals[goal], place, handed))
    return min(rows, default=None)


class JourneysTest(AskingTest):
    def assert_route(self, chart, trip, place, route):
        """Look whether a Route leads a trip to a place at its earliest arrival."""
        kind, start, moment = trip
        self.assertIsInstance(route, Route)
        self.assertIsInstance(route.roads, tuple)
        self.assertTrue(can_drive(chart, kind, start, route.roads))
        self.assertEqual([start, *[chart.road(name)[2] for name in route.roads]][-1], place)
        self.assertEqual(arrival_of(chart, route.roads, moment), route.arrival)
        self.assertEqual(least_places(chart, kind, start, moment)[place], route.arrival)

    def assert_meeting(self, chart, trips, place, moment):
        found = meeting(chart, trips)
        self.assertIsInstance(found, Meeting)
        self.assertEqual((found.place, found.moment), (place, moment))
        self.assertIsInstance(found.routes, tuple)
        self.assertEqual(len(found.routes), len(trips))
        for trip, route in zip(trips, found.routes):
            self.assert_route(chart, trip, place, route)
        self.assertEqual(max(route.arrival for route in found.routes), moment)

    def assert_relay(self, chart, one, other, goal, place, handed, arrival):
        found = relay(chart, one, other, goal)
        self.assertIsInstance(found, Relay)
        self.assertEqual((found.place, found.handed, found.arrival), (place, handed, arrival))
        self.assertIsInstance(found.routes, tuple)
        first, second, last = found.routes
        self.assert_route(chart, one, place, first)
        self.assert_route(chart, other, place, second)
        self.assert_route(chart, (other[0], place, handed), goal, last)
        self.assertEqual((max(first.arrival, second.arrival), last.arrival), (handed, arrival))


class ClassesTest(unittest.TestCase):
    def test_meeting(self):
        routes = [Route(["r"], 9), Route([], 3)]
        found = Meeting("b", 9, routes)
        kept = tuple(routes)
        routes.append("more")
        self.assertEqual(vars(found), {"place": "b", "moment": 9, "routes": kept})
        # Nothing is checked.
        self.assertEqual(vars(Meeting("nowhere", 1, ())), {"place": "nowhere", "moment": 1, "routes": ()})

    def test_relay(self):
        routes = [Route(["r"], 9), Route([], 3), Route(["s"], 12)]
        found = Relay("b", 9, routes)
        kept = tuple(routes)
        routes.append("more")
        self.assertEqual(vars(found), {"place": "b", "handed": 9, "routes": kept, "arrival": 12})
        self.assertEqual(Relay("nowhere", 99, tuple(kept)).arrival, 12)


class MeetingTest(JourneysTest):
    def test_example_of_the_interface(self):
        found = meeting(coast(), [("car", "a", 0), ("car", "c", 2)])
        self.assertEqual((found.place, found.moment), ("b", 9))
        self.assertEqual([route.roads for route in found.routes], [("r",), ("s",)])
        self.assert_meeting(coast(), [("car", "a", 0), ("car", "c", 2)], "b", 9)
        self.assert_meeting(coast(), [("car", "c", 2), ("car", "a", 0)], "b", 9)

    def test_one_trip_meets_at_its_start(self):
        for start in star().places:
            self.assert_meeting(star(), [("car", start, 17)], start, 17)

    def test_several_trips(self):
        self.assert_meeting(star(), [("car", "x", 0), ("car", "y", 0)], "m", 7)
        self.assert_meeting(star(), [("car", "x", 0), ("car", "y", 0), ("car", "z", 0)], "m", 9)
        self.assert_meeting(star(), [("car", "x", 0), ("car", "y", 0), ("car", "z", 0), ("car", "m", 3)], "m", 9)

    def test_trips_that_are_the_same(self):
        for many in (2, 3, 4):
            self.assert_meeting(star(), [("car", "y", 5)] * many, "y", 5)
        self.assert_meeting(star(), [("car", "y", 5), ("car", "y", 8)], "y", 8)

    def test_a_start_as_the_meeting_place(self):
        # Who begins late waits for nobody.
        self.assert_meeting(star(), [("car", "x", 100), ("car", "y", 0)], "x", 100)
        self.assert_meeting(star(), [("car", "x", 0), ("car", "m", 7)], "m", 7)
        self.assert_meeting(coast(), [("car", "a", 0), ("car", "b", 0)], "b", 9)

    def test_ties(self):
        roads = [
            ("r1", "a", "x", 9, CAR, None), ("r2", "a", "x2", 9, CAR, None), ("r3", "a", "w", 9, CAR, None),
            ("s1", "c", "x", 3, CAR, None), ("s2", "c", "x2", 8, CAR, None), ("s3", "c", "w", 9, CAR, None),
        ]
        chart = Map(day=60, kinds=CAR, places=["a", "c", "w", "x", "x2"], roads=roads)
        self.assert_meeting(chart, [("car", "a", 0), ("car", "c", 0)], "w", 9)
        self.assert_meeting(chart.without_road("s3"), [("car", "a", 0), ("car", "c", 0)], "x", 9)
        self.assert_meeting(chart.without_road("s3"), [("car", "c", 0), ("car", "a", 0)], "x", 9)
        # A start and another place with one moment.
        self.assert_meeting(star(), [("car", "x", 0), ("car", "m", 0)], "m", 5)
        self.assert_meeting(star(), [("car", "x", 5), ("car", "m", 0)], "x", 5)
        self.assert_meeting(star(), [("car", "x", 5), ("car", "x", 10)], "x", 10)
        roads = [("r", "a", "b", 5, CAR, None), ("s", "b", "a", 5, CAR, None)]
        both = Map(day=60, kinds=CAR, places=["a", "b"], roads=roads)
        self.assert_meeting(both, [("car", "a", 0), ("car", "b", 0)], "a", 5)
        self.assert_meeting(both, [("car", "b", 0), ("car", "a", 0)], "a", 5)

    def test_a_place_that_only_some_can_come_to(self):
        # The two first trips could meet at b at 9, but the third one comes there only by d.
        roads = [*coast().roads, ("t", "e", "d", 1, CAR, None), ("u", "b", "d", 50, CAR, None)]
        chart = coast(places=["a", "b", "c", "d", "e"], roads=roads)
        trips = [("car", "a", 0), ("car", "c", 2)]
        self.assert_meeting(chart, trips, "b", 9)
        self.assert_meeting(chart, [*trips, ("car", "e", 0)], "d", 59)

    def test_no_place_for_all(self):
        self.assertIsNone(meeting(coast(), [("car", "a", 0), ("bus", "c", 0)]))
        self.assertIsNone(meeting(coast(roads=[]), [("car", "a", 0), ("car", "b", 0)]))
        self.assertIsNone(meeting(coast(), [("car", "a", 0), ("car", "c", 2), ("bus", "a", 0), ("car", "a", 0)]))

    def test_more_or_fewer_trips_than_a_meeting_has(self):
        self.assert_meeting(star(), [("car", place, 1) for place in "xyzmx"], "m", 10)
        # Nobody has to come, so the first moment of all is early enough everywhere.
        self.assert_meeting_of_nobody(star(), "m")
        self.assert_meeting_of_nobody(coast(), "a")
        self.assertIsNone(meeting(Map(day=1, kinds=CAR), []))

    def assert_meeting_of_nobody(self, chart, place):
        self.assertEqual(vars(meeting(chart, [])), {"place": place, "moment": 0, "routes": ()})
        self.assertEqual(meeting_places(chart, [], until=0), [(place, 0) for place in chart.places])

    def test_trips_of_other_kinds(self):
        roads = [("r", "a", "b", 9, CAR, None), ("s", "c", "b", 4, ["bus"], [(50, 60)])]
        chart = coast(roads=roads)
        self.assert_meeting(chart, [("car", "a", 0), ("bus", "c", 0)], "b", 54)
        self.assertIsNone(meeting(chart, [("bus", "a", 0), ("bus", "c", 0)]))

    def test_errors_in_their_order(self):
        for trips, name in (
            ([("x", "y", 0), ("z", "w", 0)], "x"), ([("car", "y", 0), ("z", "w", 0)], "y"),
            ([("car", "a", 0), ("z", "w", 0)], "z"), ([("car", "a", 0), ("car", "w", 0)], "w"),
            ([("car", "a", 0), ("bus", "c", 0), ("car", "b", 0), ("a", "car", 0)], "a"),
        ):
            self.assert_unknown(name, meeting, coast(), trips)
            self.assert_unknown(name, meeting_places, coast(), trips, until=0)

    def test_nothing_changes(self):
        one, other = self.assert_nothing_changes(meeting, star(), [("car", "x", 0), ("car", "y", 0)])
        self.assertEqual([route.roads for route in one.routes], [route.roads for route in other.routes])

    def test_random_meetings(self):
        found = {}
        for seed in range(120):
            chance = random.Random(seed)
            chart = random_map(seed, places=5, roads=10, bars=5)
            many = chance.randint(1, 4)
            trips = random_trips(chance, chart, many)
            common = plain_common(chart, trips)
            key = (many, bool(common))
            found[key] = found.get(key, 0) + 1
            if common:
                moment, place = min((moment, place) for place, moment in common.items())
                self.assert_meeting(chart, trips, place, moment)
            else:
                self.assertIsNone(meeting(chart, trips))
        self.assertEqual(len(found), 7, found)

    def test_full_maps(self):
        for seed in range(4):
            chart = full_map(seed)
            trips = [("bus", f"p{number}", 100 * number) for number in range(4)]
            common = plain_common(chart, trips)
            rows = sorted(common.items())
            self.assertEqual(meeting_places(chart, trips, until=10 ** 6), rows)


class MeetingPlacesTest(JourneysTest):
    def test_at_and_beside_the_moments(self):
        trips = [("car", "x", 0), ("car", "y", 0)]
        rows = [("m", 7), ("x", 12), ("y", 12), ("z", 16)]
        for until in range(20):
            expected = [row for row in rows if row[1] <= until]
            self.assertEqual(meeting_places(star(), trips, until=until), expected)
        self.assertEqual(meeting_places(star(), trips, until=100000), rows)

    def test_one_trip(self):
        self.assertEqual(meeting_places(coast(), [("car", "a", 5)], until=4), [])
        self.assertEqual(meeting_places(coast(), [("car", "a", 5)], until=5), [("a", 5)])
        self.assertEqual(meeting_places(coast(), [("car", "a", 5)], until=14), [("a", 5), ("b", 14)])

    def test_no_place(self):
        self.assertEqual(meeting_places(coast(), [("car", "a", 0), ("bus", "c", 0)], until=100000), [])

    def test_until_is_passed_by_its_name(self):
        with self.assertRaises(TypeError):
            meeting_places(coast(), [("car", "a", 0)], 5)

    def test_random_places(self):
        for seed in range(60):
            chance = random.Random(seed)
            chart = random_map(seed, places=5, roads=10, bars=5)
            trips = random_trips(chance, chart, 2)
            common = plain_common(chart, trips)
            for until in [0, 100000, *common.values(), *[moment - 1 for moment in common.values()]]:
                rows = sorted((place, moment) for place, moment in common.items() if moment <= until)
                self.assertEqual(meeting_places(chart, trips, until=until), rows)

    def test_nothing_changes(self):
        chart, trips = star(), [("car", "x", 0), ("car", "y", 0)]
        kept = copy.deepcopy(trips)
        meeting_places(chart, trips, until=50).append("more")
        self.assertEqual(len(meeting_places(chart, trips, until=50)), 4)
        self.assertEqual((trips, fields(chart)), (kept, fields(star())))


class RelayTest(JourneysTest):
    def test_the_second_trip_waits(self):
        # The first trip comes to m at 7, where the second one is at 5.
        self.assert_relay(star(), ("car", "y", 0), ("car", "x", 0), "z", "m", 7, 16)

    def test_the_first_trip_waits(self):
        self.assert_relay(star(), ("car", "x", 0), ("car", "y", 0), "z", "m", 7, 16)
        self.assert_relay(star(), ("car", "x", 0), ("car", "y", 30), "z", "m", 37, 46)

    def test_handed_on_at_a_start(self):
        roads = [("r", "a", "b", 9, CAR, None), ("s", "b", "c", 4, ["bus"], None)]
        # The bus cannot leave for a, nor the car for c.
        self.assert_relay(coast(roads=roads), ("car", "a", 0), ("bus", "b", 2), "c", "b", 9, 13)
        self.assert_relay(coast(roads=roads), ("car", "b", 0), ("bus", "b", 2), "c", "b", 2, 6)
        bus = ["bus"]
        roads = [("r", "a", "b", 9, bus, None), ("s", "b", "a", 4, bus, None), ("t", "a", "c", 1, bus, None)]
        self.assert_relay(coast(roads=roads), ("car", "a", 3), ("bus", "b", 2), "c", "a", 6, 7)

    def test_handed_on_at_the_goal(self):
        roads = [("r", "a", "c", 9, CAR, None), ("s", "b", "c", 40, ["bus"], None)]
        self.assert_relay(coast(roads=roads), ("car", "a", 0), ("bus", "b", 2), "c", "c", 42, 42)
        self.assert_relay(coast(), ("car", "a", 0), ("car", "c", 0), "b", "b", 9, 9)

    def test_both_trips_begin_at_the_goal(self):
        self.assert_relay(coast(), ("car", "a", 4), ("bus", "a", 9), "a", "a", 9, 9)

    def test_ties(self):
        roads = [
            ("r1", "a", "x", 5, CAR, None), ("r2", "a", "w", 5, CAR, None), ("r3", "a", "v", 6, CAR, None),
            ("s1", "x", "c", 5, CAR, None), ("s2", "w", "c", 5, CAR, None), ("s3", "v", "c", 5, CAR, None),
        ]
        chart = Map(day=60, kinds=CAR, places=["a", "c", "v", "w", "x"], roads=roads)
        # At a, at w, at x and at c the relay arrives at 10, at v later.
        self.assert_relay(chart, ("car", "a", 0), ("car", "a", 0), "c", "a", 0, 10)
        chart = chart.with_place("b").with_road(("q", "b", "x", 5, CAR, None)).with_road(("p", "b", "w", 5, CAR, None))
        self.assert_relay(chart, ("car", "b", 0), ("car", "a", 0), "c", "c", 10, 10)
        chart = chart.without_road("s1").with_road(("s1", "x", "c", 4, CAR, None))
        self.assert_relay(chart, ("car", "b", 0), ("car", "a", 0), "c", "c", 9, 9)
        # Both hand on by w or x at 5. The car b cannot come on from there, so it is not handed on at c.
        roads = [(*road[:4], ["bus"], None) if road[0] in ("s1", "s2") else road for road in chart.roads]
        roads = [(*road[:4], ["bus", "car"], None) if road[0] in ("r1", "r2") else road for road in roads]
        chart = Map(day=60, kinds=["bus", "car"], places=chart.places, roads=roads)
        self.assert_relay(chart, ("car", "b", 0), ("bus", "a", 0), "c", "x", 5, 9)
        chart = chart.with_road(("s1", "x", "c", 5, ["bus"], None))
        self.assert_relay(chart, ("car", "b", 0), ("bus", "a", 0), "c", "w", 5, 10)

    def test_bars_hold_for_a_trip_through_the_place_only(self):
        roads = [("r", "a", "b", 5, CAR, None), ("s", "b", "c", 5, CAR, None), ("t", "d", "b", 1, CAR, None)]
        chart = Map(day=60, kinds=CAR, places=["a", "b", "c", "d"], roads=roads, bars=[("r", "s")])
        # The second trip cannot drive through b itself, but it goes on from there as a trip that begins there.
        self.assertNotIn("c", least_places(chart, "car", "a", 0))
        self.assert_relay(chart, ("car", "d", 0), ("car", "a", 0), "c", "b", 5, 10)
        self.assert_relay(chart, ("car", "a", 0), ("car", "a", 0), "c", "b", 5, 10)
        # Within its own ways the bar holds: handed on at a, nothing comes to c.
        self.assertIsNone(relay(chart.without_road("t"), ("car", "d", 0), ("car", "a", 0), "c"))

    def test_a_detour_that_is_handed_on_earlier(self):
        # Not the meeting with the least moment counts, but the arrival at the goal.
        roads = [
            ("r1", "a", "x", 1, CAR, None), ("r2", "b", "x", 1, ["bus"], None), ("r3", "a", "y", 9, CAR, None),
            ("r4", "b", "y", 9, ["bus"], None), ("s1", "x", "c", 90, ["bus"], None), ("s2", "y", "c", 1, ["bus"], None),
        ]
        chart = Map(day=60, kinds=["bus", "car"], places=["a", "b", "c", "x", "y"], roads=roads)
        self.assertEqual(meeting(chart, [("car", "a", 0), ("bus", "b", 0)]).place, "x")
        self.assert_relay(chart, ("car", "a", 0), ("bus", "b", 0), "c", "y", 9, 10)

    def test_no_way(self):
        # No place for both; and a place for both, from which the goal cannot be come to.
        self.assertIsNone(relay(coast(roads=[]), ("car", "a", 0), ("car", "b", 0), "b"))
        self.assertIsNone(relay(coast(), ("car", "a", 0), ("car", "c", 2), "a"))
        self.assertIsNone(relay(coast(), ("car", "a", 0), ("car", "c", 2), "c"))
        # The first trip could go on to the goal, but not the second one.
        roads = [("r", "a", "b", 9, ["bus", "car"], None), ("s", "b", "c", 4, CAR, None)]
        self.assertIsNone(relay(coast(roads=roads), ("car", "a", 0), ("bus", "a", 0), "c"))
        self.assert_relay(coast(roads=roads), ("bus", "a", 0), ("car", "a", 0), "c", "a", 0, 13)

    def test_errors_in_their_order(self):
        right = ("car", "a", 0)
        for one, other, name in (
            (("x", "y", 0), ("z", "w", 0), "x"), (("car", "y", 0), ("z", "w", 0), "y"), (right, ("z", "w", 0), "z"),
            (right, ("car", "w", 0), "w"), (right, ("bus", "c", 0), "v"), (right, right, "v"),
        ):
            self.assert_unknown(name, relay, coast(), one, other, "v")
        # The goal is told ahead of a relay that there is not.
        self.assert_unknown("v", relay, coast(roads=[]), right, ("car", "b", 0), "v")

    def test_nothing_changes(self):
        one, other = self.assert_nothing_changes(relay, star(), ("car", "y", 0), ("car", "x", 0), "z")
        self.assertEqual((one.place, one.arrival), (other.place, other.arrival))
        self.assert_nothing_changes(relay, town(), ("bus", "inn", 0), ("foot", "mill", 9), "pier")

    def test_random_relays(self):
        found = {}
        for seed in range(150):
            chance = random.Random(seed)
            chart = random_map(seed, places=5, roads=10, bars=5)
            one, other = random_trips(chance, chart, 2)
            for goal in chart.places:
                expected = plain_relay(chart, one, other, goal)
                sort = "none" if expected is None else "goal" if expected[1] == goal else "elsewhere"
                found[sort] = found.get(sort, 0) + 1
                if expected is None:
                    self.assertIsNone(relay(chart, one, other, goal))
                else:
                    arrival, place, handed = expected
                    self.assert_relay(chart, one, other, goal, place, handed, arrival)
        self.assertTrue(len(found) == 3 and min(found.values()) > 40, found)


if __name__ == "__main__":
    unittest.main()
