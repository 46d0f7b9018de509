"""Desks: points 61 to 64, and the interface of waypapers/desk.py."""

import copy
import itertools
import random
import unittest

from asking import AskingTest
from changing import behind_change, random_change, random_set, things_of_clash, touched_thing
from plain import random_map
from samples import fields, town
from waypapers.desk import Desk, Entry, merged, replayed
from waypapers.errors import Conflict, InvalidSet, UnknownVersion
from waypapers.maps import Map
from waypapers.sets import applied, are_apart

ROAD = ("new", "inn", "abbey", 5, ("bus",), None)


def worked_desk():
    """Return a desk with four versions behind the first map."""
    desk = Desk(town())
    desk.hand_in("ann", 0, [("place", "abbey")])
    desk.hand_in("bob", 0, [("minutes", "lane", 5, 8), ("unbar", "ring", "ring")])
    desk.hand_in("ann", 1, [("road", ROAD)])
    desk.hand_in("eve", 3, [("minutes", "lane", 8, 9)])
    return desk


def state(desk):
    """Return all that a desk tells of its versions."""
    maps = [fields(desk.map_at(number)) for number in range(desk.version + 1)]
    return (desk.version, maps, [vars(entry) for entry in desk.entries])


class DeskTest(AskingTest):
    def assert_unknown_version(self, number, question, *told):
        with self.assertRaises(UnknownVersion) as caught:
            question(*told)
        self.assertEqual(caught.exception.number, number)

    def assert_invalid_set(self, number, question, *told):
        with self.assertRaises(InvalidSet) as caught:
            question(*told)
        self.assertEqual(caught.exception.number, number)

    def assert_conflict(self, things, question, *told):
        with self.assertRaises(Conflict) as caught:
            question(*told)
        self.assertEqual(caught.exception.things, things)


class EntryTest(DeskTest):
    def test_fields(self):
        changes = [("place", "abbey")]
        entry = Entry("ann", 3, changes)
        changes.append(("place", "zoo"))
        self.assertEqual((entry.hand, entry.base, entry.changes), ("ann", 3, (("place", "abbey"),)))
        self.assertEqual(Entry("", 0, ()).changes, ())


class VersionsTest(DeskTest):
    def test_example_of_the_interface(self):
        desk = Desk(Map(day=60, kinds=["bus"], places=["a", "b"], roads=[("r", "a", "b", 5, ["bus"], None)]))
        self.assertEqual(desk.hand_in("ann", 0, [("minutes", "r", 5, 8)]), 1)
        self.assertEqual(desk.conflicts(0, [("place", "c"), ("hours", "r", None, ())]), [("road", "r")])

    def test_a_new_desk(self):
        desk = Desk(town())
        self.assertEqual((desk.version, desk.entries, desk.hands()), (0, [], []))
        self.assertEqual(fields(desk.map_at(0)), fields(town()))

    def test_every_version_stays_as_it_was(self):
        desk = Desk(town())
        maps = [fields(town())]
        sets = [[("place", "abbey")], [("road", ROAD)], [("minutes", "new", 5, 6)], [("unbar", "ring", "ring")], []]
        for number, changes in enumerate(sets, start=1):
            self.assertEqual(desk.hand_in("ann", number - 1, changes), number)
            self.assertEqual(desk.version, number)
            maps.append(fields(applied(desk.map_at(number - 1), changes)))
            self.assertEqual([fields(desk.map_at(at)) for at in range(number + 1)], maps)
            self.assertEqual(vars(desk.entry(number)), {"hand": "ann", "base": number - 1, "changes": tuple(changes)})

    def test_entries(self):
        desk = worked_desk()
        rows = [(entry.hand, entry.base, entry.changes) for entry in desk.entries]
        self.assertEqual(rows, [
            ("ann", 0, (("place", "abbey"),)),
            ("bob", 0, (("minutes", "lane", 5, 8), ("unbar", "ring", "ring"))),
            ("ann", 1, (("road", ROAD),)),
            ("eve", 3, (("minutes", "lane", 8, 9),)),
        ])
        for number in range(1, 5):
            self.assertEqual(vars(desk.entry(number)), vars(desk.entries[number - 1]))
            self.assertIsInstance(desk.entry(number), Entry)

    def test_unknown_versions(self):
        desk = worked_desk()
        for number in (-1, -4, -5, 5, 6, 100):
            self.assert_unknown_version(number, desk.map_at, number)
            self.assert_unknown_version(number, desk.entry, number)
            self.assert_unknown_version(number, desk.conflicts, number, [])
            self.assert_unknown_version(number, desk.hand_in, "ann", number, [])
            self.assert_unknown_version(number, desk.take_back, "ann", number)
            self.assert_unknown_version(number, desk.before, ("place", "inn"), number)
        self.assert_unknown_version(0, desk.entry, 0)
        self.assert_unknown_version(0, desk.take_back, "ann", 0)
        self.assertEqual(desk.version, 4)

    def test_two_desks_with_one_map(self):
        chart = town()
        one, other = Desk(chart), Desk(chart)
        one.hand_in("ann", 0, [("place", "abbey")])
        self.assertEqual((one.version, other.version, len(other.entries)), (1, 0, 0))
        self.assertEqual((fields(chart), fields(other.map_at(0))), (fields(town()), fields(town())))


class HandInTest(DeskTest):
    def test_a_set_on_the_newest_version(self):
        desk = worked_desk()
        self.assertEqual(desk.hand_in("zoe", 4, [("minutes", "new", 5, 1)]), 5)
        self.assertEqual(desk.map_at(5).road("new")[3], 1)

    def test_a_set_with_a_base_of_long_ago(self):
        desk = worked_desk()
        # On the first map there is no abbey, and the set changes neither the lane nor the abbey.
        self.assertEqual(desk.hand_in("zoe", 0, [("unplace", "lone"), ("hours", "ruin", (), None)]), 5)
        newest = desk.map_at(5)
        self.assertEqual(newest.places, ("abbey", "inn", "mill", "pier"))
        self.assertEqual((newest.road("ruin")[5], newest.road("lane")[3]), (None, 9))
        self.assertEqual(vars(desk.entry(5))["base"], 0)

    def test_an_empty_set(self):
        desk = worked_desk()
        for number, base in enumerate((0, 4, 2), start=5):
            self.assertEqual(desk.hand_in("zoe", base, []), number)
            self.assertEqual(fields(desk.map_at(number)), fields(desk.map_at(4)))
            self.assertEqual(desk.entry(number).changes, ())

    def test_changes_are_copied(self):
        desk = Desk(town())
        changes = [("place", "abbey")]
        desk.hand_in("ann", 0, changes)
        changes.append(("place", "zoo"))
        self.assertEqual(desk.entry(1).changes, (("place", "abbey"),))
        self.assertEqual(desk.hand_in("ann", 1, (("place", "zoo"),)), 2)
        self.assertEqual(desk.entry(2).changes, (("place", "zoo"),))

    def test_the_steps_in_their_order(self):
        # On the newest map there is no room for a place, and the lane takes 6 minutes.
        places = ["inn", "mill", *[f"p{number}" for number in range(27)]]
        lane = ("lane", "inn", "mill", 5, ("bus",), None)
        desk = Desk(Map(day=60, kinds=["bus"], places=places, roads=[lane]))
        desk.hand_in("ann", 0, [("minutes", "lane", 5, 6), ("place", "abbey")])
        cannot, clashing, too_much = ("minutes", "lane", 4, 7), ("minutes", "lane", 5, 7), ("place", "zoo")
        before = state(desk)
        # All of this is wrong with the set, and is told step by step.
        self.assert_unknown_version(9, desk.hand_in, "bob", 9, [too_much, clashing, cannot])
        self.assert_invalid_set(2, desk.hand_in, "bob", 0, [too_much, clashing, cannot])
        self.assert_conflict([("road", "lane")], desk.hand_in, "bob", 0, [too_much, clashing])
        self.assert_invalid_set(0, desk.hand_in, "bob", 0, [too_much])
        self.assert_invalid_set(1, desk.hand_in, "bob", 0, [too_much, too_much])
        self.assertEqual(state(desk), before)
        self.assertEqual(desk.hand_in("bob", 0, [("unplace", "p0")]), 2)
        self.assertEqual(desk.hand_in("bob", 0, [too_much]), 3)

    def test_a_set_that_can_only_be_made_on_the_newest_map(self):
        desk = worked_desk()
        self.assert_invalid_set(0, desk.hand_in, "zoe", 0, [("minutes", "new", 5, 1)])
        self.assert_invalid_set(1, desk.hand_in, "zoe", 2, [("place", "zoo"), ("minutes", "new", 5, 1)])
        self.assertEqual(desk.hand_in("zoe", 3, [("minutes", "new", 5, 1)]), 5)

    def test_sets_that_clash_only_together(self):
        desk = Desk(town())
        desk.hand_in("ann", 0, [("minutes", "lane", 5, 6)])
        desk.hand_in("bob", 1, [("place", "abbey")])
        desk.hand_in("bob", 2, [("minutes", "lane", 6, 5), ("unplace", "abbey")])
        # The map is as it was, but the sets behind the base touched it all the same.
        self.assertEqual(fields(desk.map_at(3)), fields(town()))
        changes = [("place", "abbey"), ("unplace", "lone"), ("kinds", "lane", ("bus", "foot"), ())]
        self.assert_conflict([("place", "abbey"), ("road", "lane")], desk.hand_in, "zoe", 0, changes)
        self.assertEqual(desk.conflicts(0, changes), [("place", "abbey"), ("road", "lane")])
        self.assertEqual(desk.conflicts(3, changes), [])
        self.assert_conflict([("place", "abbey")], desk.hand_in, "zoe", 0, changes[:2])
        self.assert_conflict([("road", "lane")], desk.hand_in, "zoe", 2, changes[1:])
        self.assertEqual(desk.version, 3)
        self.assertEqual(desk.hand_in("zoe", 3, changes), 4)

    def test_a_thing_that_several_sets_touched_is_told_once(self):
        desk = Desk(town())
        desk.hand_in("ann", 0, [("minutes", "lane", 5, 6)])
        desk.hand_in("ann", 1, [("minutes", "lane", 6, 7)])
        changes = [("bar", "lane", "path"), ("bar", "path", "lane")]
        self.assert_conflict([("road", "lane")], desk.hand_in, "zoe", 0, changes)

    def test_what_is_leaned_on(self):
        desk = Desk(town())
        desk.hand_in("ann", 0, [("road", ("new", "lone", "inn", 1, (), None))])
        self.assert_conflict([("place", "lone")], desk.hand_in, "bob", 0, [("unplace", "lone")])
        self.assertEqual(desk.hand_in("bob", 0, [("road", ("more", "lone", "inn", 1, (), None))]), 2)
        self.assertEqual(desk.hand_in("bob", 0, [("bar", "lane", "path")]), 3)
        self.assert_conflict([("road", "lane")], desk.hand_in, "bob", 0, [("minutes", "lane", 5, 6)])

    def test_the_desk_stays_as_it_was_behind_an_error(self):
        desk = worked_desk()
        before = copy.deepcopy(state(desk))
        there, lane = ("place", "inn"), ("minutes", "lane", 5, 6)
        for base, changes in ((7, []), (0, [there]), (0, [lane]), (4, [there]), (4, [lane])):
            changes_before = list(changes)
            with self.assertRaises((UnknownVersion, InvalidSet, Conflict)):
                desk.hand_in("zoe", base, changes)
            self.assertEqual((state(desk), changes), (before, changes_before))

    def test_conflicts_asks_for_nothing_else(self):
        desk = worked_desk()
        # These changes cannot be made anywhere.
        self.assertEqual(desk.conflicts(0, [("minutes", "lane", 1, 1)]), [("road", "lane")])
        self.assertEqual(desk.conflicts(4, [("minutes", "lane", 1, 1)]), [])
        self.assertEqual(desk.conflicts(0, []), [])
        desk.conflicts(0, [("minutes", "lane", 1, 1)]).append("more")
        self.assertEqual(desk.conflicts(0, [("minutes", "lane", 1, 1)]), [("road", "lane")])


class TakeBackTest(DeskTest):
    def test_the_newest_set(self):
        desk = worked_desk()
        self.assertEqual(desk.take_back("zoe", 4), 5)
        self.assertEqual(fields(desk.map_at(5)), fields(desk.map_at(3)))
        self.assertEqual(vars(desk.entry(5)), {"hand": "zoe", "base": 4, "changes": (("minutes", "lane", 9, 8),)})

    def test_an_earlier_set(self):
        desk = worked_desk()
        self.assertEqual(desk.take_back("zoe", 3), 5)
        self.assertNotIn("new", desk.map_at(5).road_names)
        self.assertEqual(desk.map_at(5).road("lane")[3], 9)
        # Now nothing leans on the abbey, but what leaned on it was touched behind the version 1.
        self.assert_conflict([("place", "abbey")], desk.take_back, "zoe", 1)

    def test_what_was_touched_or_leaned_on_since(self):
        desk = worked_desk()
        before = state(desk)
        self.assert_conflict([("place", "abbey")], desk.take_back, "zoe", 1)
        self.assert_conflict([("road", "lane")], desk.take_back, "zoe", 2)
        self.assertEqual(state(desk), before)
        desk = Desk(town())
        desk.hand_in("ann", 0, [("bar", "lane", "path")])
        desk.hand_in("ann", 1, [("minutes", "path", 9, 8)])
        self.assert_conflict([("road", "path")], desk.take_back, "zoe", 1)

    def test_what_was_taken_back_is_taken_back(self):
        desk = Desk(town())
        desk.hand_in("ann", 0, [("place", "abbey"), ("road", ROAD), ("bar", "back", "new")])
        desk.hand_in("bob", 0, [("unplace", "lone")])
        desk.take_back("ann", 1)
        self.assertEqual(fields(desk.map_at(3)), fields(town().without_place("lone")))
        self.assertEqual(desk.take_back("eve", 3), 4)
        self.assertEqual(fields(desk.map_at(4)), fields(desk.map_at(2)))
        self.assertEqual(desk.entry(4).changes, (("place", "abbey"), ("road", ROAD), ("bar", "back", "new")))
        self.assertEqual(desk.entry(4).base, 3)
        self.assert_conflict([("bar", "back", "new"), ("place", "abbey"), ("road", "new")], desk.take_back, "eve", 1)

    def test_an_empty_set(self):
        desk = Desk(town())
        desk.hand_in("ann", 0, [])
        self.assertEqual(desk.take_back("bob", 1), 2)
        self.assertEqual(desk.entry(2).changes, ())

    def test_no_room_to_take_back(self):
        places = [f"p{number}" for number in range(30)]
        desk = Desk(Map(day=60, kinds=["bus"], places=places))
        desk.hand_in("ann", 0, [("unplace", "p7")])
        desk.hand_in("ann", 1, [("place", "more")])
        self.assert_invalid_set(0, desk.take_back, "ann", 1)
        self.assertEqual(desk.version, 2)


class AskingDesksTest(DeskTest):
    def test_hands(self):
        self.assertEqual(worked_desk().hands(), ["ann", "bob", "eve"])
        desk = Desk(town())
        for hand in ("zoe", "", "ann", "zoe", "bob", "ann", "Any hand!"):
            desk.hand_in(hand, 0, [])
        self.assertEqual(desk.hands(), ["zoe", "", "ann", "bob", "Any hand!"])
        desk.hands().append("more")
        self.assertEqual(desk.hands(), ["zoe", "", "ann", "bob", "Any hand!"])

    def test_touched_by(self):
        desk = worked_desk()
        table = {
            ("place", "abbey"): [1], ("road", "lane"): [2, 4], ("bar", "ring", "ring"): [2], ("road", "new"): [3],
            ("place", "inn"): [], ("road", "ring"): [], ("place", "lane"): [], ("road", "x"): [],
            ("bar", "lane", "x"): [],
        }
        for thing, versions in table.items():
            self.assertEqual(desk.touched_by(thing), versions)
        desk.touched_by(("road", "lane")).append(9)
        self.assertEqual(desk.touched_by(("road", "lane")), [2, 4])

    def test_before(self):
        desk = worked_desk()
        self.assertEqual([desk.before(("road", "lane"), number) for number in range(5)], [0, 0, 2, 2, 4])
        self.assertEqual([desk.before(("place", "abbey"), number) for number in range(5)], [0, 1, 1, 1, 1])
        self.assertEqual([desk.before(("road", "x"), number) for number in range(5)], [0, 0, 0, 0, 0])

    def test_a_set_that_touches_a_thing_twice(self):
        desk = Desk(town())
        desk.hand_in("ann", 0, [("minutes", "lane", 5, 6), ("minutes", "lane", 6, 7)])
        self.assertEqual(desk.touched_by(("road", "lane")), [1])


class RandomDesksTest(DeskTest):
    def plain_answer(self, maps, sets, base, changes):
        """Return what handing in a set does, by the words of point 62: an error with its part, or the new map."""
        if not 0 <= base < len(maps):
            return ("version", base)
        chart, number = self.made(maps[base], changes)
        if chart is None:
            return ("set", number)
        things = things_of_clash([change for taken in sets[base:] for change in taken], changes)
        if things:
            return ("conflict", things)
        chart, number = self.made(maps[-1], changes)
        return ("set", number) if chart is None else ("map", chart)

    def made(self, chart, changes):
        for number, change in enumerate(changes):
            chart = behind_change(chart, change)
            if chart is None:
                return None, number
        return chart, None

    def answer(self, desk, base, changes):
        try:
            return ("map", desk.map_at(desk.hand_in("ann", base, changes)))
        except UnknownVersion as error:
            return ("version", error.number)
        except InvalidSet as error:
            return ("set", error.number)
        except Conflict as error:
            return ("conflict", error.things)

    def test_random_sets(self):
        found = {}
        for seed in range(60):
            chance = random.Random(seed)
            chart = random_map(seed, places=6, roads=8, bars=3)
            desk, maps, sets = Desk(chart), [chart], []
            for _ in range(12):
                base = chance.randint(max(-1, len(maps) - 5), len(maps))
                changes = random_set(chance, maps[min(max(base, 0), len(maps) - 1)], 3)
                if chance.random() < 0.2:
                    changes.append(random_change(chance, chart))
                word, part = self.answer(desk, base, changes)
                found[word] = found.get(word, 0) + 1
                expected_word, expected = self.plain_answer(maps, sets, base, changes)
                self.assertEqual(word, expected_word)
                if word == "map":
                    maps.append(expected)
                    sets.append(changes)
                else:
                    self.assertEqual(part, expected)
                self.assertEqual(state(desk)[:2], (len(sets), [fields(version) for version in maps]))
                self.assertEqual([list(entry.changes) for entry in desk.entries], sets)
            self.assert_asked(desk, sets)
        self.assertTrue(all(found.get(word, 0) > 20 for word in ("map", "version", "set", "conflict")), found)

    def assert_asked(self, desk, sets):
        things = {touched_thing(change) for changes in sets for change in changes}
        for thing in things:
            versions = [number for number, row in enumerate(sets, start=1) if thing in map(touched_thing, row)]
            self.assertEqual(desk.touched_by(thing), versions)
            for number in range(len(sets) + 1):
                expected = max([version for version in versions if version <= number], default=0)
                self.assertEqual(desk.before(thing, number), expected)


class ReplayedTest(DeskTest):
    def test_a_desk_is_replayed(self):
        desk = worked_desk()
        desk.take_back("zoe", 3)
        other = replayed(town(), desk.entries)
        self.assertIsInstance(other, Desk)
        self.assertEqual(state(other), state(desk))
        other.hand_in("new", 0, [])
        self.assertEqual((desk.version, other.version), (5, 6))
        self.assertEqual(fields(replayed(town(), ()).map_at(0)), fields(town()))

    def test_entries_stay_and_are_not_shared(self):
        entries = [Entry("ann", 0, [("place", "abbey")])]
        desk = replayed(town(), entries)
        entries[0].hand = "bob"
        entries.append(Entry("ann", 0, []))
        self.assertEqual((desk.version, desk.entry(1).hand), (1, "ann"))

    def test_on_another_map(self):
        entries = worked_desk().entries
        other = replayed(town().without_place("lone"), entries)
        self.assertNotIn("lone", other.map_at(4).places)

    def test_errors(self):
        one = Entry("ann", 0, [("place", "abbey")])
        self.assert_unknown_version(1, replayed, town(), [Entry("ann", 1, []), one])
        self.assert_invalid_set(1, replayed, town(), [one, Entry("ann", 1, [("place", "zoo"), ("place", "abbey")])])
        self.assert_conflict([("place", "abbey")], replayed, town(), [one, Entry("ann", 0, [("place", "abbey")])])
        # The first one counts.
        self.assert_conflict([("place", "abbey")], replayed, town(), [one, one, Entry("ann", 7, [])])

    def test_nothing_changes(self):
        chart, entries = town(), worked_desk().entries
        before = [vars(entry).copy() for entry in entries]
        self.assertEqual(state(replayed(chart, entries)), state(replayed(chart, entries)))
        self.assertEqual((fields(chart), [vars(entry) for entry in entries]), (fields(town()), before))


class MergedTest(DeskTest):
    def test_sets_that_are_apart(self):
        changes = [("place", "abbey"), ("minutes", "lane", 5, 6), ("unplace", "lone"), ("unbar", "ring", "ring")]
        sets = [[], *[[change] for change in changes]]
        expected = applied(town(), changes)
        for row in itertools.permutations(sets):
            self.assertEqual(fields(merged(town(), list(row))), fields(expected))
        self.assertEqual(fields(merged(town(), tuple(map(tuple, sets)))), fields(expected))
        self.assertEqual(fields(merged(town(), [])), fields(town()))

    def test_sets_that_clash(self):
        one, other, third = [("minutes", "lane", 5, 6)], [("bar", "lane", "path")], [("place", "abbey")]
        for row in itertools.permutations([one, other, third]):
            self.assert_conflict([("road", "lane")], merged, town(), row)
        self.assert_conflict([("place", "abbey")], merged, town(), [third, one, third])

    def test_sets_that_cannot_be_made(self):
        self.assert_invalid_set(1, merged, town(), [[("place", "abbey")], [("place", "zoo"), ("place", "inn")]])
        # All sets are made on the one map.
        self.assert_invalid_set(0, merged, town(), [[("place", "abbey")], [("road", ROAD)]])
        # What cannot be made comes ahead of what clashes.
        self.assert_invalid_set(1, merged, town(), [[("place", "abbey")], [("place", "abbey"), ("place", "inn")]])

    def test_too_many_parts(self):
        chart = Map(day=60, kinds=["bus"], places=[f"p{number}" for number in range(29)])
        sets = [[("place", "a")], [("place", "b")], [("unplace", "p0")]]
        self.assert_invalid_set(0, merged, chart, sets)
        self.assertEqual(len(merged(chart, [sets[2], *sets[:2]]).places), 30)

    def test_random_sets(self):
        found = {True: 0, False: 0}
        for seed in range(150):
            chance = random.Random(seed)
            chart = random_map(seed, places=6, roads=8, bars=3)
            sets = [random_set(chance, chart, 3) for _ in range(3)]
            apart = all(are_apart(one, other) for one, other in itertools.combinations(sets, 2))
            found[apart] += 1
            maps = []
            for row in itertools.permutations(sets):
                if apart:
                    maps.append(fields(merged(chart, row)))
                else:
                    self.assertRaises(Conflict, merged, chart, row)
            self.assertTrue(all(one == maps[0] for one in maps))
        self.assertGreater(min(found.values()), 20)

    def test_nothing_changes(self):
        chart, sets = town(), [[("place", "abbey")], [("unplace", "lone")]]
        kept = copy.deepcopy(sets)
        self.assertEqual(fields(merged(chart, sets)), fields(merged(chart, sets)))
        self.assertEqual((fields(chart), sets), (fields(town()), kept))


if __name__ == "__main__":
    unittest.main()
