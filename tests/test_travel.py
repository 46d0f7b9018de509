"""Travel: points 15 to 20, and the interface of waypapers/travel.py."""

import copy
import random
import unittest

from samples import fields, town
from waypapers.errors import InvalidRoute, UnknownName
from waypapers.maps import Map
from waypapers.travel import arrive, enter, last_entry, run, waiting


def single(hours, day=60, minutes=5):
    """Return a map with a single road, r."""
    return Map(day=day, kinds=["car"], places=["a", "b"], roads=[("r", "a", "b", minutes, ["car"], hours)])


def is_open(hours, day, moment):
    """Tell by the words of point 15 whether a road may be entered at a moment."""
    return hours is None or any(opens <= moment % day < closes for opens, closes in hours)


class TravelTest(unittest.TestCase):
    def assert_unknown(self, name, question, *told):
        with self.assertRaises(UnknownName) as caught:
            question(*told)
        self.assertEqual(caught.exception.name, name)

    def assert_table(self, question, chart, table):
        for moment, expected in table.items():
            with self.subTest(moment=moment):
                self.assertEqual(question(chart, "r", moment), expected)


class EnterTest(TravelTest):
    def test_borders_of_a_pair(self):
        table = {
            0: 10, 9: 10, 10: 10, 11: 11, 19: 19, 20: 70, 21: 70, 59: 70, 60: 70, 69: 70, 70: 70, 79: 79, 80: 130,
            60000: 60010, 60019: 60019, 60020: 60070, 99979: 99979, 99980: 100030, 100000: 100030,
        }
        self.assert_table(enter, single([(10, 20)]), table)

    def test_borders_of_several_pairs(self):
        table = {0: 0, 4: 4, 5: 6, 6: 6, 8: 8, 9: 50, 49: 50, 50: 50, 59: 59, 60: 60, 64: 64, 65: 66, 69: 110}
        self.assert_table(enter, single([(0, 5), (6, 9), (50, 60)]), table)

    def test_pairs_at_the_ends_of_the_day(self):
        self.assert_table(enter, single([(0, 1)]), {0: 0, 1: 60, 59: 60, 60: 60, 61: 120, 100000: 100020})
        self.assert_table(enter, single([(59, 60)]), {0: 59, 58: 59, 59: 59, 60: 119, 119: 119, 100000: 100019})

    def test_open_all_day(self):
        for hours in (None, [(0, 60)]):
            self.assert_table(enter, single(hours), {0: 0, 1: 1, 59: 59, 60: 60, 61: 61, 100000: 100000})

    def test_never(self):
        self.assert_table(enter, single([]), {0: None, 7: None, 60: None, 100000: None})

    def test_unknown_name(self):
        self.assert_unknown("x", enter, single(None), "x", 0)
        self.assert_unknown("a", enter, single([]), "a", 0)


class LastEntryTest(TravelTest):
    def test_borders_of_a_pair(self):
        table = {
            0: None, 9: None, 10: 10, 11: 11, 19: 19, 20: 19, 59: 19, 60: 19, 69: 19, 70: 70, 71: 71, 79: 79, 80: 79,
            60009: 59959, 60010: 60010, 99990: 99979, 100000: 99979,
        }
        self.assert_table(last_entry, single([(10, 20)]), table)

    def test_borders_of_several_pairs(self):
        table = {0: 0, 4: 4, 5: 4, 6: 6, 8: 8, 9: 8, 49: 8, 50: 50, 59: 59, 60: 60, 65: 64, 69: 68, 109: 68}
        self.assert_table(last_entry, single([(0, 5), (6, 9), (50, 60)]), table)

    def test_pairs_at_the_ends_of_the_day(self):
        self.assert_table(last_entry, single([(0, 1)]), {0: 0, 1: 0, 59: 0, 60: 60, 61: 60, 100000: 99960})
        self.assert_table(last_entry, single([(59, 60)]), {0: None, 58: None, 59: 59, 60: 59, 118: 59, 119: 119})

    def test_open_all_day(self):
        for hours in (None, [(0, 60)]):
            self.assert_table(last_entry, single(hours), {0: 0, 1: 1, 59: 59, 60: 60, 61: 61, 100000: 100000})

    def test_never(self):
        self.assert_table(last_entry, single([]), {0: None, 7: None, 60: None, 100000: None})

    def test_unknown_name(self):
        self.assert_unknown("x", last_entry, single(None), "x", 0)
        self.assert_unknown("a", last_entry, single([]), "a", 0)


class ArriveTest(TravelTest):
    def test_with_and_without_waiting(self):
        table = {0: 15, 10: 15, 19: 24, 20: 75, 60: 75, 100000: 100035}
        self.assert_table(arrive, single([(10, 20)]), table)
        self.assert_table(arrive, single(None, minutes=1000), {0: 1000, 7: 1007, 100000: 101000})

    def test_an_arrival_may_lie_outside_of_the_hours(self):
        self.assert_table(arrive, single([(10, 20)], minutes=100), {19: 119})

    def test_never(self):
        self.assert_table(arrive, single([]), {0: None, 100000: None})

    def test_unknown_name(self):
        self.assert_unknown("x", arrive, single(None), "x", 0)
        self.assert_unknown("b", arrive, single([]), "b", 0)


class EveryMomentTest(TravelTest):
    HOURS = {
        1: [None, [], [(0, 1)]],
        2: [[(0, 1)], [(1, 2)], [(0, 2)]],
        7: [None, [(0, 1), (2, 3), (4, 5), (6, 7)], [(1, 2), (3, 4)], [(0, 7)], [(2, 5)], [(6, 7)]],
        60: [[(10, 20)], [(0, 5), (50, 60)], [(0, 60)], [(1, 2), (30, 59)]],
        1440: [[(0, 1), (700, 701), (1439, 1440)], [(360, 1320)]],
    }

    def cases(self):
        for day, list_of_hours in self.HOURS.items():
            for hours in list_of_hours:
                yield day, hours, single(hours, day=day)

    def test_first_moments_by_the_words_of_the_document(self):
        for day, hours, chart in self.cases():
            for moment in [*range(3 * min(day, 70) + 2), *range(99990, 100001)]:
                coming = range(moment, moment + 2 * day + 1)
                first = next((at for at in coming if is_open(hours, day, at)), None)
                self.assertEqual(enter(chart, "r", moment), first)
                self.assertEqual(arrive(chart, "r", moment), None if first is None else first + 5)

    def test_last_moments_by_the_words_of_the_document(self):
        for day, hours, chart in self.cases():
            for moment in [*range(3 * min(day, 70) + 2), *range(99990, 100001)]:
                past = range(moment, max(-1, moment - 2 * day - 1), -1)
                last = next((at for at in past if is_open(hours, day, at)), None)
                self.assertEqual(last_entry(chart, "r", moment), last)

    def test_who_is_there_earlier_does_not_arrive_later(self):
        for day, hours, chart in self.cases():
            if hours != []:
                arrivals = [arrive(chart, "r", moment) for moment in range(3 * day)]
                self.assertEqual(arrivals, sorted(arrivals))


def square():
    """Return a map with four places, two kinds, hours, a loop and bars."""
    return Map(
        day=60,
        kinds=["car", "foot"],
        places=["a", "b", "c", "d"],
        roads=[
            ("ab", "a", "b", 10, ["car", "foot"], None),
            ("bc", "b", "c", 20, ["car", "foot"], [(30, 40)]),
            ("ca", "c", "a", 5, ["car", "foot"], [(0, 10), (50, 60)]),
            ("aa", "a", "a", 3, ["car", "foot"], [(12, 60)]),
            ("bd", "b", "d", 7, ["foot"], None),
            ("db", "d", "b", 7, ["car", "foot"], []),
        ],
        bars=[("ca", "aa"), ("ab", "bd")],
    )


class RunTest(TravelTest):
    def test_several_roads(self):
        driven = run(square(), "car", ["ab", "bc", "ca"], "a", 5)
        self.assertEqual(driven, [("ab", 5, 15), ("bc", 30, 50), ("ca", 50, 55)])

    def test_waiting_until_a_later_day(self):
        driven = run(square(), "car", ["ab", "bc", "ca"], "a", 31)
        self.assertEqual(driven, [("ab", 31, 41), ("bc", 90, 110), ("ca", 110, 115)])
        driven = run(square(), "foot", ["bc", "ca"], "b", 40)
        self.assertEqual(driven, [("bc", 90, 110), ("ca", 110, 115)])

    def test_a_road_several_times(self):
        driven = run(square(), "foot", ["aa", "aa", "ab", "bc", "ca", "ab"], "a", 0)
        self.assertEqual(driven, [
            ("aa", 12, 15), ("aa", 15, 18), ("ab", 18, 28), ("bc", 30, 50), ("ca", 50, 55), ("ab", 55, 65),
        ])

    def test_the_empty_route(self):
        for route in ([], ()):
            self.assertEqual(run(square(), "car", route, "d", 5), [])
            self.assertEqual(waiting(square(), "car", route, "d", 5), 0)

    def test_a_route_as_a_tuple(self):
        self.assertEqual(run(square(), "car", ("ab",), "a", 0), [("ab", 0, 10)])

    def test_kinds_of_values(self):
        driven = run(square(), "car", ["ab", "bc"], "a", 0)
        self.assertIsInstance(driven, list)
        self.assertTrue(all(isinstance(row, tuple) for row in driven))

    def test_late_moments(self):
        driven = run(square(), "car", ["ab", "bc"], "a", 100000)
        self.assertEqual(driven, [("ab", 100000, 100010), ("bc", 100050, 100070)])

    def test_as_early_as_possible_by_enter(self):
        chance = random.Random(3)
        chart = square()
        for _ in range(300):
            moment = chance.randint(0, 100000)
            route = ["ab", "bc", "ca"] * chance.randint(1, 4)
            there = moment
            waited = 0
            for name, entered, arrival in run(chart, "car", route, "a", moment):
                self.assertEqual(entered, enter(chart, name, there))
                self.assertEqual(arrival, arrive(chart, name, there))
                waited += entered - there
                there = arrival
            self.assertEqual(waiting(chart, "car", route, "a", moment), waited)


class InvalidRouteTest(TravelTest):
    def assert_invalid(self, number, kind, route, start):
        for drive in (run, waiting):
            with self.subTest(drive=drive, route=route):
                with self.assertRaises(InvalidRoute) as caught:
                    drive(square(), kind, route, start, 0)
                self.assertEqual(caught.exception.number, number)

    def test_kind_that_may_not_use_a_road(self):
        self.assert_invalid(0, "car", ["bd"], "b")
        self.assert_invalid(2, "car", ["bc", "ca", "bd"], "b")

    def test_road_that_is_never_open(self):
        self.assert_invalid(0, "foot", ["db"], "d")
        self.assert_invalid(1, "foot", ["bd", "db"], "b")

    def test_road_that_begins_elsewhere(self):
        self.assert_invalid(0, "car", ["bc"], "a")
        self.assert_invalid(0, "car", ["ab"], "b")
        self.assert_invalid(1, "car", ["ab", "ab"], "a")
        self.assert_invalid(2, "car", ["aa", "ab", "ca"], "a")
        self.assert_invalid(3, "car", ["ab", "bc", "ca", "bc", "bc"], "a")

    def test_barred_turns(self):
        self.assert_invalid(1, "foot", ["ab", "bd"], "a")
        self.assert_invalid(1, "car", ["ca", "aa"], "c")
        self.assert_invalid(3, "car", ["ab", "bc", "ca", "aa"], "a")

    def test_bars_hold_for_the_road_directly_before(self):
        chart = Map(
            day=60, kinds=["car"], places=["a"], bars=[("p", "q"), ("p", "p")],
            roads=[(name, "a", "a", 1, ["car"], None) for name in ("o", "p", "q")],
        )
        self.assertEqual(len(run(chart, "car", ["p", "o", "q", "q", "p", "o", "p"], "a", 0)), 7)
        for number, route in ((1, ["p", "q"]), (1, ["p", "p"]), (2, ["q", "p", "q"]), (3, ["o", "o", "p", "p"])):
            with self.assertRaises(InvalidRoute) as caught:
                run(chart, "car", route, "a", 0)
            self.assertEqual(caught.exception.number, number)

    def test_no_road_is_barred_at_the_start(self):
        self.assertEqual(run(square(), "foot", ["bd"], "b", 0), [("bd", 0, 7)])
        self.assertEqual(run(square(), "car", ["aa", "ab"], "a", 0), [("aa", 12, 15), ("ab", 15, 25)])

    def test_the_first_of_several_faults(self):
        self.assert_invalid(0, "car", ["bd", "db", "ab", "aa"], "a")
        self.assert_invalid(1, "car", ["ab", "bd", "db"], "a")


class NamesTest(TravelTest):
    def test_order_of_the_names(self):
        for drive in (run, waiting):
            with self.subTest(drive=drive):
                chart = square()
                self.assert_unknown("k", drive, chart, "k", ["x", "y"], "p", 0)
                self.assert_unknown("p", drive, chart, "car", ["x", "y"], "p", 0)
                self.assert_unknown("x", drive, chart, "car", ["x", "y"], "a", 0)
                self.assert_unknown("y", drive, chart, "car", ["ab", "y"], "a", 0)
                self.assert_unknown("k", drive, chart, "k", [], "a", 0)
                self.assert_unknown("p", drive, chart, "car", [], "p", 0)
                self.assert_unknown("ab", drive, chart, "ab", [], "a", 0)
                self.assert_unknown("car", drive, chart, "car", [], "car", 0)
                self.assert_unknown("a", drive, chart, "car", ["a"], "a", 0)

    def test_names_come_ahead_of_everything_else(self):
        for drive in (run, waiting):
            with self.subTest(drive=drive):
                self.assert_unknown("y", drive, square(), "car", ["bc", "bd", "db", "y"], "a", 0)


class WaitingTest(TravelTest):
    def test_minutes(self):
        self.assertEqual(waiting(square(), "car", ["ab", "bc", "ca"], "a", 5), 15)
        self.assertEqual(waiting(square(), "car", ["ab", "bc", "ca"], "a", 31), 49)
        self.assertEqual(waiting(square(), "car", ["aa", "ab"], "a", 0), 12)
        self.assertEqual(waiting(square(), "car", ["ab"], "a", 100000), 0)
        self.assertEqual(waiting(square(), "foot", ["aa", "aa", "ab", "bc", "ca", "ab"], "a", 0), 14)

    def test_minutes_ahead_of_each_road_count(self):
        self.assertEqual(waiting(square(), "car", ["bc", "ca"], "b", 45), 45)
        self.assertEqual(waiting(square(), "car", ["bc", "ca", "ab", "bc"], "b", 0), 30 + 0 + 0 + 25)


class ArgumentsTest(TravelTest):
    def test_nothing_is_modified(self):
        chart = town()
        before = copy.deepcopy(fields(chart))
        route = ["ring", "ferry", "back", "lane"]
        run(chart, "bus", route, "mill", 25)
        waiting(chart, "bus", route, "mill", 25)
        for question in (enter, last_entry, arrive):
            question(chart, "ferry", 25)
        self.assertEqual(route, ["ring", "ferry", "back", "lane"])
        self.assertEqual(fields(chart), before)

    def test_returned_lists_are_new(self):
        chart = town()
        driven = run(chart, "bus", ["lane"], "inn", 0)
        driven.append("x")
        self.assertEqual(run(chart, "bus", ["lane"], "inn", 0), [("lane", 0, 5)])


class ExampleTest(TravelTest):
    def test_example_of_the_interface(self):
        roads = [("ferry", "a", "b", 20, ["car"], [(30, 40)]), ("lane", "b", "c", 5, ["car"], None)]
        coast = Map(day=60, places=["a", "b", "c"], kinds=["car"], roads=roads, bars=[])
        self.assertEqual(run(coast, "car", ["ferry", "lane"], "a", 45), [("ferry", 90, 110), ("lane", 110, 115)])
        self.assertEqual(waiting(coast, "car", ["ferry", "lane"], "a", 45), 45)


if __name__ == "__main__":
    unittest.main()
