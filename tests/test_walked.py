"""[7] heaves, runs, walks; [4] what is told of a walk is that of its parts put together."""

import random
import unittest

from samples import (FAR, GREAT, MIXED, MIXED_START, NAMES, deep, dial, frozen, house_of, odd_things, places_between,
                     plain_can_turn, plain_standings, random_house, wide_house)

from pawldials.errors import NoHouse, NoStanding, NoWalk
from pawldials.walks import spread, walked


def heave(*turns):
    return ("heave", tuple(turns))


class WalkCase(unittest.TestCase):
    def check_refused(self, house, standing, walk, nth):
        with self.subTest(walk=walk):
            before = frozen(walk)
            with self.assertRaises(NoWalk) as caught:
                walked(house, standing, walk)
            self.assertEqual(caught.exception.nth, nth)
            self.assertNotIsInstance(caught.exception.nth, bool)
            self.assertEqual(frozen(walk), before)

    def check(self, house, standing, walk, told):
        with self.subTest(walk=walk):
            before = frozen(walk)
            self.assertEqual(walked(house, standing, walk), told)
            self.assertEqual(frozen(walk), before)


class Heaves(WalkCase):
    def test_of_one_dial(self):
        self.check(MIXED, MIXED_START, [heave(("a", 3))], ((3, 0, 2, 3), 4, 2))
        self.check(MIXED, MIXED_START, [heave(("a", 0))], ((0, 0, 2, 3), 3, 1))
        self.check(MIXED, MIXED_START, [heave(("b", -2))], ((1, -2, 2, 3), 14, 2))

    def test_of_twelve_dials(self):
        house = wide_house(("off", "a", "b", 0), ("off", "b", "a", 0), count=12)
        turns = [(name, 2 * k + 2 if k > 1 else 5) for k, name in enumerate(NAMES)]
        numbers = tuple(to for name, to in turns)
        self.check(house, (0,) * 12, [heave(*turns)], (numbers, sum(numbers), sum(numbers)))
        self.check(house, (0,) * 12, [heave(("a", 1), ("b", 1))], ((1, 1) + (0,) * 10, 2, 2))
        self.check_refused(house, (0,) * 12, [heave(("a", 1))], 0)
        self.check_refused(house, (0,) * 12, [heave(*turns, ("m", 1))], 0)

    def test_prices_of_each_way(self):
        self.check(MIXED, MIXED_START, [heave(("a", 0), ("b", 2), ("c", 4), ("d", 0))],
                   ((0, 2, 4, 0), 3 + 2 * 5 + 2 * 11 + 3 * 19, 1 + 2 + 2 + 3))

    def test_against_a_pawl(self):
        self.check_refused(MIXED, MIXED_START, [heave(("c", 1))], 0)
        self.check_refused(MIXED, MIXED_START, [heave(("d", 4))], 0)
        self.check_refused(MIXED, MIXED_START, [heave(("a", 2), ("c", 1))], 0)
        self.check(MIXED, MIXED_START, [heave(("c", 3))], ((1, 0, 3, 3), 11, 1))
        self.check(MIXED, MIXED_START, [heave(("d", 2))], ((1, 0, 2, 2), 19, 1))

    def test_to_where_the_dial_stands(self):
        self.check_refused(MIXED, MIXED_START, [heave(("a", 1))], 0)
        self.check_refused(MIXED, MIXED_START, [heave(("a", 2), ("b", 0))], 0)
        self.check_refused(MIXED, MIXED_START, [heave(("c", 2))], 0)

    def test_spans(self):
        house = house_of([dial("a", -2, 3)])
        self.check(house, (0,), [heave(("a", 3)), heave(("a", -2))], ((-2,), 8, 5))
        for to in (4, -3, FAR, -GREAT, 10 ** 59):
            self.check_refused(house, (0,), [heave(("a", to))], 0)

    def test_names_rise_and_none_stands_twice(self):
        house = wide_house(count=3)
        self.check(house, (0, 0, 0), [heave(("a", 1), ("b", 1), ("c", 1))], ((1, 1, 1), 3, 3))
        for turns in ((("b", 1), ("a", 1)), (("a", 1), ("a", 2)), (("a", 1), ("c", 1), ("b", 1)),
                      (("a", 1), ("a", 1)), (("a", 1), ("b", 1), ("b", 2))):
            self.check_refused(house, (0, 0, 0), [heave(*turns)], 0)

    def test_to_no_standing(self):
        house = wide_house(("off", "a", "b", 0), ("one", ("a", "most", 0), ("a", "least", 3)))
        self.check_refused(house, (0, 0), [heave(("a", 3))], 0)
        self.check_refused(house, (0, 5), [heave(("a", 2))], 0)
        self.check(house, (0, 5), [heave(("a", 3))], ((3, 5), 3, 3))
        self.check(house, (0, 0), [heave(("a", 4), ("b", 4))], ((4, 4), 8, 8))

    def test_forms(self):
        house = wide_house()
        for thing in (*odd_things(), heave(), ("heave", [("a", 1)]), ("heave", (["a", 1],)), ["heave", (("a", 1),)],
                      ("heave", (("a", 1),), 1), ("heave",), ("Heave", (("a", 1),)), (["heave"], (("a", 1),)),
                      ("heave", ("a", 1)), ("heave", (("a",),)), ("heave", (("a", 1, 1),)), heave(("c", 1)),
                      heave(("", 1)), heave((None, 1)), heave((["a"], 1)), heave(({}, 1)), heave(("a", True)),
                      heave(("a", None)), heave(("a", "1")), heave(("a", [1])), heave(("a", 1), None),
                      ("heave", None), ("heave", {"a": 1}), heave(deep(lambda part: (part, 1), 40))):
            self.check_refused(house, (0, 0), [thing], 0)


class Runs(WalkCase):
    def test_both_ways(self):
        self.check(MIXED, MIXED_START, [("run", "a", 3)], ((3, 0, 2, 3), 4, 1))
        self.check(MIXED, MIXED_START, [("run", "b", -2)], ((1, -2, 2, 3), 14, 1))
        self.check(MIXED, MIXED_START, [("run", "b", 1), ("run", "a", 4), ("run", "a", 0)],
                   ((0, 1, 2, 3), 5 + 3 * 2 + 4 * 3, 1))

    def test_far_is_told_at_once(self):
        house = house_of([dial("a", -FAR, FAR, "both", 1000000, 7), dial("b", -FAR, FAR)],
                         ("off", "a", "b", 0), ("least", "a", "b", 0), ("most", "a", "b", 2 * FAR),
                         ("one", ("a", "least", -5), ("b", "least", 3)), ("one", ("a", "most", 5), ("a", "least", 6)))
        self.check(house, (-FAR, FAR), [], ((-FAR, FAR), 0, 0))
        self.check(house, (-FAR, FAR), [("run", "a", FAR)], ((FAR, FAR), 2 * FAR * 1000000, 1))
        self.check(house, (FAR, FAR), [("run", "a", -FAR)], ((-FAR, FAR), 2 * FAR * 7, 1))
        self.check(house, (0, 0), [("run", "b", FAR), ("run", "a", FAR)], ((FAR, FAR), FAR + FAR * 1000000, 1))
        self.check_refused(house, (0, FAR - 1), [("run", "a", FAR)], 0)

    def test_across_a_gap_of_an_either_or(self):
        for first, second in ((("a", "most", 0), ("a", "least", 2)), (("a", "least", 2), ("a", "most", 0)),
                              (("a", "most", 0), ("a", "least", FAR // 2))):
            house = wide_house(("one", first, second))
            self.check_refused(house, (0, 0), [("run", "a", FAR)], 0)
            self.check_refused(house, (-FAR, 0), [("run", "a", FAR)], 0)
            self.check_refused(house, (FAR, 0), [("run", "a", -FAR)], 0)
            self.check_refused(house, (0, 0), [("run", "a", 1)], 0)
            self.check(house, (-FAR, 0), [("run", "a", 0)], ((0, 0), FAR, 1))
            self.check(house, (FAR, 0), [("run", "a", FAR - 1), ("run", "b", FAR)], ((FAR - 1, FAR), FAR + 1, 1))
        self.check_refused(wide_house(("one", ("a", "most", 0), ("a", "least", 2))), (2, 0), [("run", "a", 0)], 0)
        self.check_refused(wide_house(("one", ("a", "most", 0), ("a", "least", 2))), (0, 0), [("run", "a", 2)], 0)

    def test_either_ors_without_a_gap(self):
        house = wide_house(("one", ("a", "most", 0), ("a", "least", 1)), ("one", ("a", "most", 5), ("a", "least", -5)),
                           ("one", ("b", "least", 0), ("a", "least", 100)), ("one", ("a", "most", 9), ("b", "most", 0)),
                           ("one", ("a", "least", -FAR), ("a", "least", 7)),
                           ("one", ("a", "most", 3), ("a", "most", FAR)))
        self.check(house, (-FAR, 0), [("run", "a", FAR)], ((FAR, 0), 2 * FAR, 1))
        self.check(house, (FAR, 0), [("run", "a", -FAR)], ((-FAR, 0), 2 * FAR, 1))

    def test_a_gap_is_open_for_another_dial(self):
        house = wide_house(("one", ("a", "most", 0), ("b", "least", 2)))
        self.check_refused(house, (0, 0), [("run", "a", 5)], 0)
        self.check(house, (0, 0), [("run", "b", 2), ("run", "a", 5)], ((5, 2), 7, 1))
        self.check_refused(house, (5, 2), [("run", "b", 1)], 0)
        self.check(house, (-3, 0), [("run", "a", 0), ("run", "b", 9), ("run", "a", 9)], ((9, 9), 3 + 9 + 9, 1))
        # The gap is one of b: a runs past its numbers as it likes.
        house = wide_house(("one", ("b", "most", 0), ("b", "least", 5)))
        self.check(house, (-9, 0), [("run", "a", 9)], ((9, 0), 18, 1))

    def test_against_a_pawl(self):
        self.check_refused(MIXED, MIXED_START, [("run", "c", 1)], 0)
        self.check_refused(MIXED, MIXED_START, [("run", "d", 4)], 0)
        self.check(MIXED, MIXED_START, [("run", "c", 4), ("run", "d", -6)], ((1, 0, 4, -6), 2 * 11 + 9 * 19, 1))
        self.check_refused(wide_house(way="up"), (0, 0), [("run", "a", FAR), ("run", "a", FAR - 1)], 1)
        self.check_refused(wide_house(way="down"), (0, 0), [("run", "a", -FAR), ("run", "a", 1 - FAR)], 1)

    def test_to_where_the_dial_stands(self):
        self.check_refused(MIXED, MIXED_START, [("run", "a", 1)], 0)
        self.check_refused(MIXED, MIXED_START, [("run", "a", 2), ("run", "a", 2)], 1)

    def test_spans_and_rules(self):
        self.check_refused(wide_house(), (0, 0), [("run", "a", FAR + 1)], 0)
        self.check_refused(wide_house(), (0, 0), [("run", "a", -FAR - 1)], 0)
        self.check(MIXED, MIXED_START, [("run", "a", 3)], ((3, 0, 2, 3), 4, 1))
        self.check_refused(MIXED, MIXED_START, [("run", "a", 4)], 0)
        self.check(MIXED, MIXED_START, [("run", "c", 4)], ((1, 0, 4, 3), 22, 1))
        self.check_refused(MIXED, MIXED_START, [("run", "c", 5)], 0)

    def test_forms(self):
        for thing in (("run",), ("run", "a"), ("run", "a", 1, 1), ["run", "a", 1], ("Run", "a", 1), ("run", ("a", 1)),
                      ("run", "c", 1), ("run", "", 1), ("run", None, 1), ("run", ["a"], 1), ("run", {}, 1),
                      ("run", "a", True), ("run", "a", None), ("run", "a", "1"), ("run", "a", (1,)),
                      ("run", "a", [1]), ("heave", "a", 1), ("run", (("a", 1),)), ("a", 1), (["run"], "a", 1)):
            self.check_refused(wide_house(), (0, 0), [thing], 0)


class Walks(WalkCase):
    def test_strength(self):
        house = wide_house()
        self.check(house, (0, 0), [], ((0, 0), 0, 0))
        self.check(house, (0, 0), [("run", "a", 9)], ((9, 0), 9, 1))
        self.check(house, (0, 0), [heave(("a", 2), ("b", -3)), ("run", "a", 9), heave(("a", 8))], ((8, -3), 13, 5))
        self.check(house, (0, 0), [heave(("a", 1)), heave(("b", FAR))], ((1, FAR), FAR + 1, FAR))

    def test_the_first_thing_that_is_none_or_cannot_be_done(self):
        house = wide_house(("off", "a", "b", 0))
        none, never, good = ("run", "c", 1), ("run", "a", 1), ("run", "b", 5)
        self.check_refused(house, (0, 0), [never, none], 0)
        self.check_refused(house, (0, 0), [none, never], 0)
        self.check_refused(house, (0, 0), [good, none, never], 1)
        self.check(house, (0, 0), [good, never], ((1, 5), 6, 1))
        self.check_refused(house, (0, 0), [good, never, never, none], 2)
        self.check_refused(house, (0, 0), [good, ("run", "b", 0), ("run", "a", -1), good, good], 4)

    def test_what_is_no_list(self):
        for thing in odd_things():
            if not isinstance(thing, list):
                self.check_refused(wide_house(), (0, 0), thing, 0)
        self.check_refused(wide_house(), (0, 0), (("run", "a", 1),), 0)
        self.check_refused(wide_house(), (0, 0), (), 0)

    def test_lists_of_anything(self):
        for thing in odd_things():
            self.check_refused(wide_house(), (0, 0), [("run", "a", 1), thing], 1)
            if isinstance(thing, list):
                self.check_refused(wide_house(), (0, 0), thing, 0)
        self.check_refused(wide_house(), (0, 0), spread(house_of([dial("a", 0, 999)]), (0,), 1), 0)

    def test_a_long_walk(self):
        walk = [("run", "a", k % 2 + 1) for k in range(4999)]
        self.check(wide_house(), (0, 0), walk, ((1, 0), 4999, 1))
        self.check_refused(wide_house(), (0, 0), [*walk, None], 4999)

    def test_order_of_refusals(self):
        with self.assertRaises(NoHouse) as caught:
            walked(((dial("b"), dial("a")), ()), None, None)
        self.assertEqual(caught.exception.fault, ("dial", 1))
        house = wide_house(("off", "a", "b", 0))
        for standing in (*odd_things(), (1, 0), (0,), [0, 0], (False, 0), (FAR + 1, FAR), (0, 0, 0)):
            with self.assertRaises(NoStanding):
                walked(house, standing, None)
        self.check_refused(house, (0, 0), None, 0)
        for thing in odd_things():
            with self.assertRaises(NoHouse):
                walked(thing, (0, 0), [])

    def test_told_tuples_are_plain(self):
        told = walked(wide_house(), (0, 0), [])
        self.assertIs(type(told), tuple)
        self.assertIs(type(told[0]), tuple)

    def test_whoever_asks_the_same_is_told_the_same(self):
        walk = [("run", "a", 3), heave(("b", 1), ("c", 3))]
        self.assertEqual(walked(MIXED, MIXED_START, walk), walked(MIXED, MIXED_START, list(walk)))
        walk.append(None)
        self.check_refused(MIXED, MIXED_START, walk, 2)
        walk.pop()
        self.check(MIXED, MIXED_START, walk, ((3, 1, 3, 3), 4 + 5 + 11, 2))


class SmallHouses(WalkCase):
    """All heaves and runs of small houses, by going through them place by place."""

    def places(self, count):
        pick = random.Random(71)
        for _ in range(count):
            small = random_house(pick)
            standings = plain_standings(small)
            if standings:
                yield pick, small, standings, pick.choice(standings)

    def price(self, house, here, there):
        rows = zip(house[0], here, there)
        return sum((y - x) * row[4] if y > x else (x - y) * row[5] for row, x, y in rows)

    def test_heaves(self):
        for pick, house, standings, here in self.places(300):
            there = tuple(pick.randint(row[1] - 1, row[2] + 1) for row in house[0])
            for there in (there, pick.choice(standings)):
                turns = [(row[0], y) for row, x, y in zip(house[0], here, there) if x != y]
                if turns and there in standings and plain_can_turn(house, here, there):
                    told = (there, self.price(house, here, there), places_between(here, there))
                    self.check(house, here, [heave(*turns)], told)
                else:
                    self.check_refused(house, here, [heave(*turns)], 0)

    def runs(self, house, here):
        for k, row in enumerate(house[0]):
            for to in range(row[1] - 1, row[2] + 2):
                step = 1 if to > here[k] else -1
                way = [here[:k] + (n,) + here[k + 1:] for n in range(here[k] + step, to + step, step)]
                yield row[0], to, way if to != here[k] else []

    def test_runs(self):
        for pick, house, standings, here in self.places(300):
            for name, to, way in self.runs(house, here):
                good = way and plain_can_turn(house, here, way[-1]) and all(n in standings for n in way)
                if good:
                    self.check(house, here, [("run", name, to)], (way[-1], self.price(house, here, way[-1]), 1))
                else:
                    self.check_refused(house, here, [("run", name, to)], 0)

    def test_parts_put_together(self):
        for pick, house, standings, here in self.places(200):
            walk, price, strength, now = [], 0, 0, here
            for _ in range(6):
                there = pick.choice(standings)
                turns = [(row[0], y) for row, x, y in zip(house[0], now, there) if x != y]
                if turns and plain_can_turn(house, now, there):
                    part = walked(house, now, [heave(*turns)])
                    walk.append(heave(*turns))
                    now, price, strength = part[0], price + part[1], max(strength, part[2])
            self.check(house, here, walk, (now, price, strength))


if __name__ == "__main__":
    unittest.main()
