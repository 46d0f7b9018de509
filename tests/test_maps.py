"""Maps: points 1 to 8, and the interface of waypapers/maps.py."""

import copy
import itertools
import random
import unittest

from samples import fields, town
from waypapers.errors import InvalidMap, UnknownName
from waypapers.maps import Map, is_name

ROAD = ("r", "a", "b", 5, ["car"], None)


def small(**changed):
    """Return a small map, with some arguments changed."""
    told = {"day": 60, "kinds": ["car", "bus"], "places": ["a", "b"], "roads": [ROAD]}
    told.update(changed)
    return Map(**told)


def names(many, letter="n"):
    return [f"{letter}{number}" for number in range(many)]


class MapsTest(unittest.TestCase):
    def assert_invalid(self, **changed):
        with self.assertRaises(InvalidMap):
            small(**changed)

    def assert_unknown(self, name, question, *told):
        with self.assertRaises(UnknownName) as caught:
            question(*told)
        self.assertEqual(caught.exception.name, name)


class NameTest(MapsTest):
    def test_lengths(self):
        self.assertFalse(is_name(""))
        self.assertTrue(is_name("a"))
        self.assertTrue(is_name("abcdefghijkl"))
        self.assertFalse(is_name("abcdefghijklm"))
        self.assertFalse(is_name("a" * 1000))

    def test_result_is_a_truth_value(self):
        for text in ("", "a", "9", "a b", "a" * 12, "a" * 13):
            self.assertIn(is_name(text), (True, False))
            self.assertIsInstance(is_name(text), bool)

    def test_every_ascii_character_behind_the_first_one(self):
        good = "abcdefghijklmnopqrstuvwxyz0123456789"
        for code in range(128):
            with self.subTest(code=code):
                self.assertEqual(is_name("a" + chr(code)), chr(code) in good)
                self.assertEqual(is_name("a" + chr(code) + "b"), chr(code) in good)

    def test_every_ascii_character_as_the_first_one(self):
        good = "abcdefghijklmnopqrstuvwxyz"
        for code in range(128):
            with self.subTest(code=code):
                self.assertEqual(is_name(chr(code)), chr(code) in good)
                self.assertEqual(is_name(chr(code) + "a1"), chr(code) in good)

    def test_letters_and_digits_of_other_alphabets(self):
        for sign in "\u00e4\u00df\u00b2\u0663\u03b1\uff41\u0131":
            with self.subTest(sign=sign):
                self.assertFalse(is_name(sign))
                self.assertFalse(is_name("a" + sign))

    def test_names_of_the_bounds_in_a_map(self):
        for good in ("a", "z9", "a12345678901"):
            kept = Map(day=1, kinds=[good], places=[good], roads=[(good, good, good, 1, [good], None)])
            self.assertEqual(kept.road_names, (good,))
        for bad in ("", "a123456789012", "9a", "A", "a b", "a_", "a-b", "a\n", "\u00e4"):
            with self.subTest(bad=bad):
                self.assert_invalid(kinds=["car", bad])
                self.assert_invalid(places=["a", "b", bad])
                self.assert_invalid(roads=[(bad, "a", "b", 5, ["car"], None)])

    def test_names_of_one_sort_are_different(self):
        self.assert_invalid(kinds=["car", "bus", "car"])
        self.assert_invalid(places=["a", "b", "a"])
        self.assert_invalid(roads=[ROAD, ROAD])
        self.assert_invalid(roads=[ROAD, ("r", "b", "a", 7, [], [])])

    def test_names_of_several_sorts_may_be_the_same(self):
        chart = Map(day=9, kinds=["x"], places=["x"], roads=[("x", "x", "x", 1, ["x"], None)], bars=[("x", "x")])
        self.assertEqual(fields(chart), (9, ("x",), ("x",), (("x", "x", "x", 1, ("x",), None),), (("x", "x"),)))

    def test_order_of_names(self):
        shuffled = ["ab", "b", "a1", "aa", "a", "a11", "ab0", "a2", "b0", "z"]
        chart = small(places=shuffled, roads=[])
        self.assertEqual(chart.places, ("a", "a1", "a11", "a2", "aa", "ab", "ab0", "b", "b0", "z"))


class BoundsTest(MapsTest):
    def test_day(self):
        for day in (1, 2, 1439, 1440):
            self.assertEqual(small(day=day).day, day)
        for day in (-1, 0, 1441, 100000):
            with self.subTest(day=day):
                self.assert_invalid(day=day)

    def test_places(self):
        for many in (0, 1, 29, 30):
            self.assertEqual(small(places=names(many), roads=[]).places, tuple(sorted(names(many))))
        for many in (31, 32, 60):
            with self.subTest(many=many):
                self.assert_invalid(places=names(many), roads=[])

    def test_kinds(self):
        for many in (1, 2, 3, 4):
            self.assertEqual(small(kinds=names(many), roads=[]).kinds, tuple(names(many)))
        for many in (0, 5, 6):
            with self.subTest(many=many):
                self.assert_invalid(kinds=names(many), roads=[])

    def test_roads(self):
        for many in (0, 1, 59, 60):
            roads = [(name, "a", "b", 5, ["car"], None) for name in names(many)]
            self.assertEqual(small(roads=roads).road_names, tuple(sorted(names(many))))
        for many in (61, 62):
            with self.subTest(many=many):
                self.assert_invalid(roads=[(name, "a", "b", 5, ["car"], None) for name in names(many)])

    def test_bars(self):
        roads = [(name, "a", "a", 5, ["car"], None) for name in names(7)]
        pairs = list(itertools.product(names(7), repeat=2))
        for many in (0, 1, 39, 40):
            self.assertEqual(small(roads=roads, bars=pairs[:many]).bars, tuple(sorted(pairs[:many])))
        for many in (41, 42, 49):
            with self.subTest(many=many):
                self.assert_invalid(roads=roads, bars=pairs[:many])

    def test_minutes(self):
        for minutes in (1, 2, 999, 1000):
            self.assertEqual(small(roads=[("r", "a", "b", minutes, [], None)]).road("r")[3], minutes)
        for minutes in (-5, 0, 1001, 5000):
            with self.subTest(minutes=minutes):
                self.assert_invalid(roads=[("r", "a", "b", minutes, [], None)])

    def test_arguments_that_may_be_left_out(self):
        self.assertEqual(fields(Map(day=1, kinds=["car"])), (1, ("car",), (), (), ()))

    def test_arguments_are_passed_by_name(self):
        with self.assertRaises(TypeError):
            Map(60, ["car"])


class RoadTest(MapsTest):
    def test_number_of_parts(self):
        whole = ("q", "a", "b", 5, ["car"], None)
        for bad in ((), whole[:1], whole[:2], whole[:5], whole + (None,), whole + whole):
            with self.subTest(bad=bad):
                self.assert_invalid(roads=[bad])
                self.assert_invalid(roads=[ROAD, list(bad)])

    def test_strange_places(self):
        self.assert_invalid(roads=[("r", "c", "b", 5, ["car"], None)])
        self.assert_invalid(roads=[("r", "a", "c", 5, ["car"], None)])
        self.assert_invalid(roads=[("r", "a", "", 5, ["car"], None)])
        self.assert_invalid(roads=[("r", "car", "b", 5, ["car"], None)])

    def test_from_a_place_to_the_same_place(self):
        self.assertEqual(small(roads=[("r", "a", "a", 5, [], None)]).road("r"), ("r", "a", "a", 5, (), None))

    def test_kinds(self):
        for kinds in ([], ["bus"], ["car", "bus"], ("bus", "car")):
            kept = small(roads=[("r", "a", "b", 5, kinds, None)]).road("r")
            self.assertEqual(kept[4], tuple(sorted(kinds)))
        for kinds in (["van"], ["car", "van"], ["car", "car"], ["bus", "car", "bus"], [""], ["Car"], ["a"]):
            with self.subTest(kinds=kinds):
                self.assert_invalid(roads=[("r", "a", "b", 5, kinds, None)])


class HoursTest(MapsTest):
    def kept(self, hours, day=60):
        return small(day=day, roads=[("r", "a", "b", 5, ["car"], hours)]).road("r")[5]

    def assert_bad(self, hours, day=60):
        with self.subTest(hours=hours, day=day):
            self.assert_invalid(day=day, roads=[("r", "a", "b", 5, ["car"], hours)])

    def test_always_and_never(self):
        self.assertIsNone(self.kept(None))
        self.assertEqual(self.kept([]), ())
        self.assertEqual(self.kept(()), ())

    def test_pairs_that_touch_the_ends_of_the_day(self):
        self.assertEqual(self.kept([[0, 60]]), ((0, 60),))
        self.assertEqual(self.kept([(0, 1), (59, 60)]), ((0, 1), (59, 60)))
        self.assertEqual(self.kept([(0, 1)], day=1), ((0, 1),))
        self.assertEqual(self.kept([(1439, 1440)], day=1440), ((1439, 1440),))

    def test_pairs_outside_of_the_day(self):
        self.assert_bad([(0, 61)])
        self.assert_bad([(60, 61)])
        self.assert_bad([(-1, 5)])
        self.assert_bad([(-9, -5)])
        self.assert_bad([(0, 2)], day=1)
        self.assert_bad([(0, 5), (50, 61)])

    def test_empty_and_turned_pairs(self):
        self.assert_bad([(0, 0)])
        self.assert_bad([(7, 7)])
        self.assert_bad([(60, 60)])
        self.assert_bad([(9, 8)])
        self.assert_bad([(0, 5), (9, 9)])
        self.assert_bad([(0, 5), (20, 10)])

    def test_pairs_that_are_not_apart(self):
        self.assertEqual(self.kept([(0, 5), (6, 9)]), ((0, 5), (6, 9)))
        self.assert_bad([(0, 5), (5, 9)])
        self.assert_bad([(0, 5), (4, 9)])
        self.assert_bad([(0, 5), (0, 5)])
        self.assert_bad([(0, 30), (10, 20)])
        self.assert_bad([(0, 5), (10, 20), (20, 30)])

    def test_pairs_in_another_order(self):
        self.assert_bad([(6, 9), (0, 5)])
        self.assert_bad([(0, 5), (20, 30), (10, 15)])

    def test_number_of_pairs(self):
        pairs = [(10 * number, 10 * number + 5) for number in range(6)]
        for many in (1, 2, 3, 4):
            self.assertEqual(self.kept(pairs[:many]), tuple(pairs[:many]))
        self.assert_bad(pairs[:5])
        self.assert_bad(pairs)

    def test_number_of_parts_of_a_pair(self):
        self.assert_bad([()])
        self.assert_bad([(5,)])
        self.assert_bad([(5, 6, 7)])
        self.assert_bad([(0, 1), [5]])


class BarsTest(MapsTest):
    ROADS = [ROAD, ("s", "b", "a", 5, [], None), ("t", "a", "a", 5, [], None), ("u", "b", "b", 5, [], None)]

    def test_roads_that_touch(self):
        for bar in (("r", "s"), ("s", "r"), ("t", "r"), ("t", "t"), ("u", "u"), ("s", "t"), ("r", "u")):
            self.assertEqual(small(roads=self.ROADS, bars=[list(bar)]).bars, (bar,))

    def test_roads_that_do_not_touch(self):
        for bar in (("r", "r"), ("s", "s"), ("r", "t"), ("t", "u"), ("u", "r"), ("t", "s")):
            with self.subTest(bar=bar):
                self.assert_invalid(roads=self.ROADS, bars=[bar])

    def test_strange_roads(self):
        for bar in (("r", "x"), ("x", "r"), ("x", "x"), ("a", "b"), ("", "r"), ("R", "s")):
            with self.subTest(bar=bar):
                self.assert_invalid(roads=self.ROADS, bars=[bar])

    def test_number_of_parts(self):
        for bar in ((), ("r",), ("r", "s", "r")):
            with self.subTest(bar=bar):
                self.assert_invalid(roads=self.ROADS, bars=[bar])
                self.assert_invalid(roads=self.ROADS, bars=[("r", "s"), list(bar)])

    def test_a_bar_twice(self):
        self.assert_invalid(roads=self.ROADS, bars=[("r", "s"), ("s", "r"), ["r", "s"]])


class OrderTest(MapsTest):
    def test_order_of_all_fields(self):
        self.assertEqual(fields(town()), (
            60,
            ("bus", "foot"),
            ("inn", "lone", "mill", "pier"),
            (
                ("back", "pier", "inn", 7, ("bus", "foot"), ((0, 30),)),
                ("ferry", "mill", "pier", 20, ("bus",), ((10, 20), (30, 60))),
                ("lane", "inn", "mill", 5, ("bus", "foot"), None),
                ("path", "mill", "inn", 9, (), None),
                ("ring", "mill", "mill", 1, ("bus", "foot"), None),
                ("ruin", "inn", "pier", 3, ("bus", "foot"), ()),
            ),
            (("lane", "ferry"), ("ring", "ring")),
        ))

    def test_bars_by_the_first_name_and_then_by_the_second_one(self):
        roads = [(name, "a", "a", 5, [], None) for name in ("a", "a1", "b")]
        bars = [("b", "a"), ("a", "b"), ("a1", "a"), ("a", "a1"), ("a1", "b"), ("a", "a")]
        kept = small(roads=roads, bars=bars).bars
        self.assertEqual(kept, (("a", "a"), ("a", "a1"), ("a", "b"), ("a1", "a"), ("a1", "b"), ("b", "a")))

    def test_whatever_the_order_of_the_arguments(self):
        chart = town()
        chance = random.Random(5)
        for _ in range(50):
            told = {field: list(getattr(chart, field)) for field in ("kinds", "places", "roads", "bars")}
            told["roads"] = [[*road[:4], chance.sample(road[4], len(road[4])), road[5]] for road in chart.roads]
            for parts in told.values():
                chance.shuffle(parts)
            self.assertEqual(fields(Map(day=60, **told)), fields(chart))

    def test_kinds_of_values(self):
        chart = Map(
            day=60, kinds=["car"], places=["a"], roads=[["r", "a", "a", 5, ["car"], [[0, 9]]]], bars=[["r", "r"]]
        )
        for kept in (chart.kinds, chart.places, chart.roads, chart.bars, chart.road_names, chart.roads[0],
                     chart.roads[0][4], chart.roads[0][5], chart.roads[0][5][0], chart.bars[0], chart.road("r")):
            self.assertIsInstance(kept, tuple)


class CopyTest(MapsTest):
    def told(self):
        return {
            "day": 60, "kinds": ["car", "bus"], "places": ["b", "a"],
            "roads": [["r", "a", "b", 5, ["car", "bus"], [[0, 9], [20, 30]]], ["q", "b", "a", 5, [], None]],
            "bars": [["r", "q"], ["q", "r"]],
        }

    def test_arguments_stay_as_they_are(self):
        told = self.told()
        Map(**told)
        self.assertEqual(told, self.told())

    def test_later_changes_of_the_arguments(self):
        told = self.told()
        chart = Map(**told)
        before = copy.deepcopy(fields(chart))
        told["roads"][0][5][0][1] = 19
        told["roads"][0][5].append([40, 50])
        told["roads"][0][4].pop()
        told["roads"][0][3] = 99
        told["bars"][0][0] = "q"
        for field in ("kinds", "places", "roads", "bars"):
            told[field].pop()
        self.assertEqual(fields(chart), before)
        self.assertEqual(chart.road("r"), ("r", "a", "b", 5, ("bus", "car"), ((0, 9), (20, 30))))
        self.assertTrue(chart.is_barred("r", "q"))

    def test_later_changes_of_what_with_methods_were_passed(self):
        chart = Map(**self.told())
        hours = [[1, 2]]
        kinds = ["car"]
        road = ["s", "a", "a", 5, kinds, hours]
        changed = (chart.with_hours("r", hours), chart.with_road(road))
        self.assertEqual(hours, [[1, 2]])
        self.assertEqual(road, ["s", "a", "a", 5, ["car"], [[1, 2]]])
        hours[0][0] = 0
        hours.append([8, 9])
        kinds.append("bus")
        road[3] = 99
        self.assertEqual(changed[0].road("r")[5], ((1, 2),))
        self.assertEqual(changed[1].road("s"), ("s", "a", "a", 5, ("car",), ((1, 2),)))

    def test_returned_lists_are_new(self):
        chart = town()
        for question, told in ((chart.roads_from, "inn"), (chart.roads_to, "inn"), (chart.followers, "lane")):
            first = question(told)
            self.assertIsInstance(first, list)
            kept = list(first)
            first.append("x")
            self.assertEqual(question(told), kept)


class QuestionsTest(MapsTest):
    def test_road_names(self):
        self.assertEqual(town().road_names, ("back", "ferry", "lane", "path", "ring", "ruin"))
        self.assertEqual(small(roads=[]).road_names, ())

    def test_road(self):
        self.assertEqual(town().road("lane"), ("lane", "inn", "mill", 5, ("bus", "foot"), None))
        self.assert_unknown("inn", town().road, "inn")
        self.assert_unknown("", town().road, "")

    def test_check_place_and_check_kind(self):
        self.assertIsNone(town().check_place("lone"))
        self.assertIsNone(town().check_kind("bus"))
        for strange in ("bus", "lane", "Inn", "", "inns"):
            self.assert_unknown(strange, town().check_place, strange)
        for strange in ("inn", "lane", "Bus", "", "car"):
            self.assert_unknown(strange, town().check_kind, strange)

    def test_roads_from_and_to(self):
        chart = town()
        self.assertEqual(chart.roads_from("mill"), ["ferry", "path", "ring"])
        self.assertEqual(chart.roads_to("mill"), ["lane", "ring"])
        self.assertEqual(chart.roads_from("inn"), ["lane", "ruin"])
        self.assertEqual(chart.roads_to("inn"), ["back", "path"])
        self.assertEqual((chart.roads_from("lone"), chart.roads_to("lone")), ([], []))
        self.assert_unknown("lane", chart.roads_from, "lane")
        self.assert_unknown("lane", chart.roads_to, "lane")

    def test_is_barred(self):
        chart = town()
        for first, second in itertools.product(chart.road_names, repeat=2):
            barred = (first, second) in (("ring", "ring"), ("lane", "ferry"))
            self.assertIs(chart.is_barred(first, second), barred)

    def test_may_follow(self):
        chart = town()
        good = [
            ("back", "lane"), ("back", "ruin"), ("ferry", "back"), ("lane", "path"), ("lane", "ring"),
            ("path", "lane"), ("path", "ruin"), ("ring", "ferry"), ("ring", "path"), ("ruin", "back"),
        ]
        for first, second in itertools.product(chart.road_names, repeat=2):
            self.assertIs(chart.may_follow(first, second), (first, second) in good)

    def test_followers(self):
        chart = town()
        told = {name: chart.followers(name) for name in chart.road_names}
        self.assertEqual(told, {
            "back": ["lane", "ruin"], "ferry": ["back"], "lane": ["path", "ring"],
            "path": ["lane", "ruin"], "ring": ["ferry", "path"], "ruin": ["back"],
        })
        self.assert_unknown("mill", chart.followers, "mill")

    def test_may_use(self):
        chart = town()
        self.assertIs(chart.may_use("bus", "ferry"), True)
        self.assertIs(chart.may_use("foot", "ferry"), False)
        self.assertIs(chart.may_use("bus", "path"), False)
        self.assertIs(chart.may_use("foot", "ruin"), True)

    def test_order_of_unknown_names(self):
        chart = town()
        for question in (chart.is_barred, chart.may_follow, chart.with_bar, chart.without_bar):
            with self.subTest(question=question):
                self.assert_unknown("x", question, "x", "y")
                self.assert_unknown("x", question, "x", "lane")
                self.assert_unknown("y", question, "lane", "y")
        self.assert_unknown("x", chart.may_use, "x", "y")
        self.assert_unknown("x", chart.may_use, "x", "lane")
        self.assert_unknown("y", chart.may_use, "bus", "y")
        self.assert_unknown("lane", chart.may_use, "lane", "bus")


class ChangedMapsTest(MapsTest):
    def setUp(self):
        self.chart = town()
        self.before = copy.deepcopy(fields(self.chart))

    def tearDown(self):
        self.assertEqual(fields(self.chart), self.before)

    def assert_refused(self, question, *told):
        with self.assertRaises(InvalidMap):
            question(*told)

    def assert_changed(self, changed, **parts):
        told = {field: getattr(self.chart, field) for field in ("day", "kinds", "places", "roads", "bars")}
        told.update(parts)
        self.assertIsInstance(changed, Map)
        self.assertEqual(fields(changed), fields(Map(**told)))

    def test_with_road_that_is_new(self):
        road = ("quay", "pier", "lone", 4, ["foot", "bus"], [[1, 2]])
        self.assert_changed(self.chart.with_road(road), roads=[*self.chart.roads, road])
        self.assertEqual(self.chart.with_road(road).followers("ferry"), ["back", "quay"])

    def test_with_road_in_the_place_of_another_one(self):
        road = ["lane", "inn", "mill", 6, ["foot"], []]
        others = [other for other in self.chart.roads if other[0] != "lane"]
        self.assert_changed(self.chart.with_road(road), roads=[*others, road])
        self.assertTrue(self.chart.with_road(road).is_barred("lane", "ferry"))
        self.assert_changed(self.chart.with_road(self.chart.road("lane")))

    def test_with_road_that_breaks_a_rule(self):
        for bad in (
            ("quay",), ("lane",), ("quay", "pier", "lone", 4, []), ("quay", "pier", "lone", 4, [], None, None),
            ("Quay", "pier", "lone", 4, [], None), ("quay", "sea", "lone", 4, [], None),
            ("quay", "pier", "sea", 4, [], None), ("quay", "pier", "lone", 0, [], None),
            ("quay", "pier", "lone", 4, ["car"], None), ("quay", "pier", "lone", 4, [], [(5, 5)]),
        ):
            with self.subTest(bad=bad):
                self.assert_refused(self.chart.with_road, bad)

    def test_with_road_whose_bars_do_not_fit(self):
        self.assert_refused(self.chart.with_road, ("lane", "inn", "pier", 5, [], None))
        self.assert_refused(self.chart.with_road, ("ferry", "inn", "pier", 5, [], None))
        self.assert_refused(self.chart.with_road, ("ring", "mill", "inn", 5, [], None))
        moved = ("lane", "lone", "mill", 5, [], None)
        self.assertEqual(self.chart.with_road(moved).bars, self.chart.bars)

    def test_with_road_up_to_the_bound(self):
        chart = self.chart
        for number in range(54):
            chart = chart.with_road((f"r{number}", "inn", "mill", 5, [], None))
        self.assertEqual(len(chart.roads), 60)
        self.assertEqual(len(chart.with_road(("r0", "inn", "mill", 9, [], None)).roads), 60)
        self.assert_refused(chart.with_road, ("r99", "inn", "mill", 9, [], None))

    def test_without_road(self):
        others = [road for road in self.chart.roads if road[0] != "lane"]
        self.assert_changed(self.chart.without_road("lane"), roads=others, bars=[("ring", "ring")])
        others = [road for road in self.chart.roads if road[0] != "ferry"]
        self.assert_changed(self.chart.without_road("ferry"), roads=others, bars=[("ring", "ring")])
        others = [road for road in self.chart.roads if road[0] != "ring"]
        self.assert_changed(self.chart.without_road("ring"), roads=others, bars=[("lane", "ferry")])
        others = [road for road in self.chart.roads if road[0] != "path"]
        self.assert_changed(self.chart.without_road("path"), roads=others)
        self.assert_unknown("lan", self.chart.without_road, "lan")
        self.assert_unknown("inn", self.chart.without_road, "inn")

    def test_with_hours(self):
        for hours in (None, [], [(5, 9)], [[0, 1], [2, 60]]):
            road = ("ferry", "mill", "pier", 20, ["bus"], hours)
            others = [other for other in self.chart.roads if other[0] != "ferry"]
            self.assert_changed(self.chart.with_hours("ferry", hours), roads=[*others, road])
        self.assert_unknown("pier", self.chart.with_hours, "pier", None)

    def test_with_hours_that_break_a_rule(self):
        pairs = [(0, 1), (2, 3), (4, 5), (6, 7), (8, 9)]
        for bad in ([(9, 9)], [(9, 8)], [(0, 61)], [(0, 5), (5, 6)], pairs, [(1,)], [(1, 2, 3)]):
            with self.subTest(bad=bad):
                self.assert_refused(self.chart.with_hours, "lane", bad)
                self.assert_unknown("pier", self.chart.with_hours, "pier", bad)

    def test_with_place(self):
        self.assert_changed(self.chart.with_place("fort"), places=[*self.chart.places, "fort"])
        self.assert_changed(self.chart.with_place("lane"), places=[*self.chart.places, "lane"])
        for bad in ("inn", "lone", "", "Fort", "a" * 13, "1a"):
            with self.subTest(bad=bad):
                self.assert_refused(self.chart.with_place, bad)

    def test_with_place_up_to_the_bound(self):
        chart = small(places=names(29), roads=[])
        self.assertEqual(len(chart.with_place("z").places), 30)
        self.assert_refused(chart.with_place("z").with_place, "y")

    def test_without_place(self):
        self.assert_changed(self.chart.without_place("lone"), places=["inn", "mill", "pier"])
        self.assert_refused(self.chart.without_place, "inn")
        only_start = small(roads=[("r", "a", "b", 5, [], [])])
        self.assert_refused(only_start.without_place, "a")
        self.assert_refused(only_start.without_place, "b")
        self.assert_unknown("fort", self.chart.without_place, "fort")
        self.assert_unknown("lane", self.chart.without_place, "lane")

    def test_with_bar(self):
        self.assert_changed(self.chart.with_bar("back", "lane"), bars=[*self.chart.bars, ("back", "lane")])
        self.assertEqual(self.chart.with_bar("back", "lane").followers("back"), ["ruin"])
        self.assert_refused(self.chart.with_bar, "lane", "ferry")
        self.assert_refused(self.chart.with_bar, "ring", "ring")
        self.assert_refused(self.chart.with_bar, "lane", "lane")
        self.assert_refused(self.chart.with_bar, "ferry", "lane")

    def test_with_bar_up_to_the_bound(self):
        roads = [(name, "a", "a", 5, [], None) for name in names(7)]
        pairs = list(itertools.product(names(7), repeat=2))
        chart = small(roads=roads, bars=pairs[:39])
        self.assertEqual(len(chart.with_bar(*pairs[39]).bars), 40)
        self.assert_refused(chart.with_bar(*pairs[39]).with_bar, *pairs[40])

    def test_without_bar(self):
        self.assert_changed(self.chart.without_bar("lane", "ferry"), bars=[("ring", "ring")])
        self.assert_changed(self.chart.without_bar("ring", "ring"), bars=[("lane", "ferry")])
        self.assertTrue(self.chart.without_bar("ring", "ring").may_follow("ring", "ring"))
        self.assert_refused(self.chart.without_bar, "ferry", "lane")
        self.assert_refused(self.chart.without_bar, "back", "lane")
        self.assert_refused(self.chart.without_bar, "lane", "lane")


class ExampleTest(MapsTest):
    def test_example_of_the_interface(self):
        chart = Map(
            day=60, kinds=["foot"], places=["b", "a"],
            roads=[("r", "b", "a", 5, ["foot"], [(10, 20)]), ("q", "a", "b", 7, [], None)],
        )
        self.assertEqual((chart.places, chart.road_names), (("a", "b"), ("q", "r")))
        self.assertEqual(chart.followers("q"), ["r"])
        with self.assertRaises(InvalidMap):
            chart.with_bar("q", "q")


if __name__ == "__main__":
    unittest.main()
