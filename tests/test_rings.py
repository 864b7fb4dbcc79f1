"""[11] places that are bound."""

import random
import unittest

from plainly import Small, bound_house
from samples import FAR, GREAT, MIXED, NAMES, dial, frozen, house_of, odd_things, random_house, wide_house

from pawldials.errors import NoHouse, NoPlace
from pawldials.rings import ring


class SmallHouses(unittest.TestCase):
    def bound(self, small, place):
        """The rows of all places that hold where it does, or just where it doesn't; None where it has none."""
        mine = small.where(place)
        if all(mine) or not any(mine):
            return None
        rows = {}
        for name, i in small.places():
            there = small.where((name, i))
            if there == mine or all(one != other for one, other in zip(mine, there)):
                rows.setdefault((name, there == mine), []).append(i)
        for places in rows.values():
            self.assertEqual(places, list(range(places[0], places[-1] + 1)))
        return sorted((name, places[0], places[-1], alike) for (name, alike), places in rows.items())

    def test_every_place(self):
        pick = random.Random(47)
        told = {}
        for k in range(500):
            house = bound_house(pick) if k % 4 else random_house(pick)
            small = Small(house)
            for place in small.places():
                rows = self.bound(small, place)
                with self.subTest(house=house, place=place):
                    if rows is None:
                        with self.assertRaises(NoPlace):
                            ring(house, place)
                        told["none"] = told.get("none", 0) + 1
                    else:
                        self.assertEqual(ring(house, place), rows)
                        size = sum(last - first + 1 for _, first, last, _ in rows)
                        told[min(size, 4)] = told.get(min(size, 4), 0) + 1
                        if not all(alike for *_, alike in rows):
                            told["unlike"] = told.get("unlike", 0) + 1
        self.assertEqual(set(told), {"none", 1, 2, 3, 4, "unlike"})
        self.assertGreater(min(told.values()), 5)


class WideDials(unittest.TestCase):
    def test_alone(self):
        house = wide_house()
        for i in (1 - FAR, 0, FAR):
            self.assertEqual(ring(house, ("b", i)), [("b", i, i, True)])

    def test_bound_along_a_row(self):
        rules = []
        for k in range(11):
            rules.append(("off", NAMES[k], NAMES[k + 1], -1))
            rules.append(("off", NAMES[k + 1], NAMES[k], 1))
        house = wide_house(*rules, count=12)
        for i in (0, 12 - FAR, FAR // 3):
            rows = [(name, i + k, i + k, True) for k, name in enumerate(NAMES)]
            for name, first, _, _ in rows:
                self.assertEqual(ring(house, (name, first)), rows)
        # a goes no higher than eleven below the end, l no lower than eleven above it.
        self.assertEqual(len(ring(house, ("a", FAR - 11))), 12)
        self.assertEqual(len(ring(house, ("l", 12 - FAR))), 12)
        for place in (("a", FAR - 10), ("a", FAR), ("l", 11 - FAR), ("l", 1 - FAR)):
            with self.assertRaises(NoPlace):
                ring(house, place)

    def test_turned_about(self):
        rules = (("most", "a", "b", 10), ("least", "a", "b", 10), ("off", "b", "c", 0), ("off", "c", "b", 0))
        house = wide_house(*rules, count=3)
        # a is at least 4 just where b is not at least 7.
        self.assertEqual(ring(house, ("a", 4)), [("a", 4, 4, True), ("b", 7, 7, False), ("c", 7, 7, False)])
        self.assertEqual(ring(house, ("b", 7)), [("a", 4, 4, False), ("b", 7, 7, True), ("c", 7, 7, True)])

    def test_gaps(self):
        house = wide_house(("one", ("a", "most", 5), ("a", "least", 5 + FAR // 2)), ("off", "a", "b", 0),
                           ("off", "b", "a", 0))
        first, last = 6, 5 + FAR // 2
        rows = [("a", first, last, True), ("b", first, last, True)]
        for i in (first, first + 1, FAR // 3, last):
            self.assertEqual(ring(house, ("a", i)), rows)
            self.assertEqual(ring(house, ("b", i)), rows)
        for i in (first - 1, last + 1):
            self.assertEqual(ring(house, ("a", i)), [("a", i, i, True), ("b", i, i, True)])

    def test_bound_by_either_ors(self):
        house = wide_house(("one", ("a", "most", 4), ("b", "most", -8)), ("one", ("b", "least", -7), ("a", "least", 5)))
        self.assertEqual(ring(house, ("a", 5)), [("a", 5, 5, True), ("b", -7, -7, False)])
        self.assertEqual(ring(house, ("b", -7)), [("a", 5, 5, False), ("b", -7, -7, True)])
        self.assertEqual(ring(house, ("a", 6)), [("a", 6, 6, True)])

    def test_one_way_is_not_bound(self):
        house = wide_house(("off", "a", "b", 0), ("one", ("a", "most", 4), ("b", "least", 9)))
        self.assertEqual(ring(house, ("a", 5)), [("a", 5, 5, True)])
        self.assertEqual(ring(house, ("b", 9)), [("b", 9, 9, True)])


class Refusals(unittest.TestCase):
    def test_no_place(self):
        for place in [*odd_things(), ("a", 0), ("a", 10), ("a", -1), ("a", GREAT), ("a", True), ("a", None), ("a", "1"),
                      ("e", 1), ("", 1), (None, 1), (["a"], 1), ("a", 1, True), ["a", 1], ("a", [1]), ({}, 1), (1, "a"),
                      ("a", 10 ** 59)]:
            with self.subTest(place=repr(place)[:60]), self.assertRaises(NoPlace):
                ring(MIXED, place)
        self.assertEqual(ring(MIXED, ("a", 1)), [("a", 1, 1, True)])
        # In all standings a is at most 8.
        with self.assertRaises(NoPlace):
            ring(MIXED, ("a", 9))

    def test_a_dial_of_one_number(self):
        for i in (3, 4, 2):
            with self.assertRaises(NoPlace):
                ring(house_of([dial("a", 3, 3)]), ("a", i))

    def test_in_all_and_in_none(self):
        house = house_of([dial("a"), dial("b")], ("one", ("a", "least", 3), ("a", "least", 3)), ("off", "a", "b", -2))
        for place in (("a", 1), ("a", 3), ("b", 5), ("a", 8), ("a", 9)):
            with self.assertRaises(NoPlace):
                ring(house, place)
        for place in (("a", 4), ("a", 7), ("b", 6), ("b", 9)):
            self.assertEqual(ring(house, place), [(*place, place[1], True)])

    def test_a_house_without_standings(self):
        rules = (("most", "a", "b", 1), ("least", "a", "b", 1), ("off", "a", "b", 0), ("off", "b", "a", 0))
        for house in (wide_house(("off", "a", "b", 0), ("off", "b", "a", -1)), wide_house(*rules),
                      wide_house(("least", "a", "b", GREAT)),
                      house_of([dial("a"), dial("b")], ("one", ("b", "least", 10), ("b", "most", -1)))):
            with self.assertRaises(NoPlace):
                ring(house, ("a", 1))

    def test_a_dial_beside_rules_that_bar_all(self):
        cross = [("one", ("a", one, i), ("b", other, k)) for one, i in (("least", 5), ("most", 4))
                 for other, k in (("least", 5), ("most", 4))]
        gone = (cross, [("off", "a", "b", 0), ("off", "b", "a", -1)], [("off", "a", "b", -10)],
                [("one", ("a", "least", 10), ("b", "most", -1))],
                [("most", "a", "b", 7), ("least", "a", "b", 7), ("off", "a", "b", 0), ("off", "b", "a", 0)])
        for rules in gone:
            for i in (1, 5, 9):
                with self.subTest(rules=rules), self.assertRaises(NoPlace):
                    ring(house_of([dial("a"), dial("b"), dial("c")], *rules), ("c", i))
        self.assertEqual(ring(house_of([dial("a"), dial("b"), dial("c")], *cross[1:]), ("c", 5)), [("c", 5, 5, True)])

    def test_no_house(self):
        for thing in odd_things():
            with self.assertRaises(NoHouse):
                ring(thing, ("a", 1))
        with self.assertRaises(NoHouse) as caught:
            ring((MIXED[0], (("off", "a", "a", 0),)), None)
        self.assertEqual(caught.exception.fault, ("rule", 0))

    def test_nothing_is_changed_and_all_is_new(self):
        before = frozen(MIXED)
        told = ring(MIXED, ("a", 1))
        told.append(None)
        self.assertEqual(ring(MIXED, ("a", 1)), [("a", 1, 1, True)])
        self.assertEqual(frozen(MIXED), before)


if __name__ == "__main__":
    unittest.main()
