"""[8] spread, and what it takes for TooWide."""

import random
import unittest

from samples import (FAR, GREAT, MIXED, MIXED_START, NAMES, dial, house_of, odd_things, plain_spread,
                     plain_standings, random_house, wide_house)

from pawldials.errors import NoHouse, NoStanding, NoStrength, TooWide
from pawldials.houses import is_standing
from pawldials.walks import spread

SMALL = house_of([dial("a", 0, 4), dial("b", 0, 4, "up"), dial("c", 0, 4)], ("off", "a", "b", 0), ("most", "b", "c", 5))
SMALL_START = (1, 2, 3)


class Strengths(unittest.TestCase):
    def test_one_two_three(self):
        # A gap of one number takes strength 2, one of two takes 3.
        house = house_of([dial("a", 0, 9)], ("one", ("a", "most", 2), ("a", "least", 4)),
                         ("one", ("a", "most", 5), ("a", "least", 8)))
        self.assertEqual(spread(house, (0,), 1), [(0,), (1,), (2,)])
        self.assertEqual(spread(house, (0,), 2), [(0,), (1,), (2,), (4,), (5,)])
        self.assertEqual(spread(house, (0,), 3), [(0,), (1,), (2,), (4,), (5,), (8,), (9,)])
        house = house_of([dial("a", 0, 9)], ("one", ("a", "most", 2), ("a", "least", 6)))
        self.assertEqual(spread(house, (0,), 3), [(0,), (1,), (2,)])

    def test_dials_that_turn_at_once(self):
        two = house_of([dial("a"), dial("b")], ("off", "a", "b", 0), ("off", "b", "a", 0), ("most", "a", "b", 5))
        self.assertEqual(spread(two, (1, 1), 1), [(1, 1)])
        self.assertEqual(spread(two, (1, 1), 2), [(0, 0), (1, 1), (2, 2)])
        three = house_of([dial("a"), dial("b"), dial("c", 0, 2)], ("off", "a", "b", 0), ("off", "b", "a", 0),
                         ("most", "a", "c", 2), ("least", "a", "c", 2))
        self.assertEqual(spread(three, (1, 1, 1), 2), [(1, 1, 1)])
        self.assertEqual(spread(three, (1, 1, 1), 3), [(0, 0, 2), (1, 1, 1), (2, 2, 0)])

    def test_pawls(self):
        house = house_of([dial("a", 0, 3, "up"), dial("b", 0, 3, "down")])
        self.assertEqual(spread(house, (2, 1), 1), [(2, 0), (2, 1), (3, 0), (3, 1)])
        bound = house_of([dial("a", 0, 3, "up"), dial("b", 0, 3)], ("off", "a", "b", 0), ("off", "b", "a", 0))
        self.assertEqual(spread(bound, (1, 1), 3), [(1, 1), (2, 2), (3, 3)])
        stuck = house_of([dial("a", 0, 3, "up"), dial("b", 0, 3, "down")], ("off", "a", "b", 0), ("off", "b", "a", 0))
        self.assertEqual(spread(stuck, (1, 1), 3), [(1, 1)])

    def test_what_is_no_strength(self):
        for strength in [0, 4, -1, 5, GREAT, *odd_things(), (1,), [1], "1", 10 ** 59]:
            with self.subTest(strength=strength), self.assertRaises(NoStrength):
                spread(MIXED, MIXED_START, strength)

    def test_order_of_refusals(self):
        with self.assertRaises(NoHouse) as caught:
            spread((MIXED[0], (None,)), None, None)
        self.assertEqual(caught.exception.fault, ("rule", 0))
        house = wide_house(("off", "a", "b", 0))
        for standing in (*odd_things(), (1, 0), [0, 0], (0,), (True, 1)):
            with self.assertRaises(NoStanding):
                spread(house, standing, 0)
        with self.assertRaises(NoStrength):
            spread(house, (0, 0), 0)
        with self.assertRaises(TooWide):
            spread(house, (0, 0), 1)
        for thing in odd_things():
            with self.assertRaises(NoHouse):
                spread(thing, (0, 0), 1)


class Widths(unittest.TestCase):
    def test_just_a_thousand_and_one_more(self):
        for start in (0, 500, 999):
            told = spread(house_of([dial("a", 0, 999)]), (start,), 1)
            self.assertEqual(told, [(n,) for n in range(1000)])
        for strength in (1, 2, 3):
            for start in (0, 500, 1000):
                with self.assertRaises(TooWide):
                    spread(house_of([dial("a", 0, 1000)]), (start,), strength)
        cube = house_of([dial(name, 0, 9) for name in "abc"])
        self.assertEqual(spread(cube, (4, 4, 4), 2), plain_standings(cube))

    def test_a_thousand_behind_a_pawl(self):
        house = house_of([dial("a", -FAR, FAR, "up")])
        self.assertEqual(len(spread(house, (FAR - 999,), 3)), 1000)
        with self.assertRaises(TooWide):
            spread(house, (FAR - 1000,), 3)
        house = house_of([dial("a", -FAR, FAR, "down")])
        self.assertEqual(spread(house, (2 - FAR,), 1), [(-FAR,), (1 - FAR,), (2 - FAR,)])

    def test_wide_dials_are_too_wide(self):
        for strength in (1, 2, 3):
            with self.assertRaises(TooWide):
                spread(wide_house(count=12), (0,) * 12, strength)
        bound = wide_house(("off", "a", "b", 0), ("off", "b", "a", 0))
        self.assertEqual(spread(bound, (7, 7), 1), [(7, 7)])
        with self.assertRaises(TooWide):
            spread(bound, (7, 7), 2)

    def test_wide_dials_that_rules_hold_to_few(self):
        house = wide_house(("off", "a", "b", 0), ("off", "b", "a", 1), ("most", "a", "b", 3), ("least", "a", "b", 0))
        few = [(a, b) for a in range(-3, 4) for b in range(-3, 6) if is_standing(house, (a, b))]
        self.assertEqual(few, [(0, 0), (0, 1), (1, 1), (1, 2)])
        self.assertEqual(spread(house, (1, 1), 1), few)
        far = FAR - 2
        house = wide_house(("one", ("a", "least", far), ("a", "most", -far)),
                           ("one", ("b", "least", far), ("b", "least", far)))
        told = [(a, b) for a in range(far, FAR + 1) for b in range(far, FAR + 1)]
        for strength in (1, 2, 3):
            self.assertEqual(spread(house, (FAR, FAR), strength), told)

    def test_twelve_dials_that_rules_hold_to_few(self):
        rules = []
        for first, second in zip(NAMES, NAMES[1:]):
            rules += [("off", first, second, 0), ("off", second, first, 0 if second > "c" else 1)]
        house = wide_house(*rules, ("one", ("a", "least", 5), ("a", "most", -5)), ("most", "a", "l", 13), count=12)
        # c to l are bound, ten places: below strength 10 only a and b turn.
        start = (5, 6) + (6,) * 10
        for strength in (1, 2, 3):
            told = spread(house, start, strength)
            self.assertEqual(told, [(5, 5) + (6,) * 10, (5, 6) + (6,) * 10, (6, 6) + (6,) * 10])


class SmallHouses(unittest.TestCase):
    def test_as_by_going_all_heaves(self):
        pick = random.Random(81)
        for _ in range(250):
            house = random_house(pick)
            standings = plain_standings(house)
            if standings:
                start = pick.choice(standings)
                for strength in (1, 2, 3):
                    with self.subTest(house=house, start=start, strength=strength):
                        self.assertEqual(spread(house, start, strength), plain_spread(house, start, strength))

    def test_a_told_list_is_the_askers_own(self):
        told = spread(SMALL, SMALL_START, 1)
        before = list(told)
        told.clear()
        self.assertEqual(spread(SMALL, SMALL_START, 1), before)
        self.assertIn(SMALL_START, before)
        self.assertTrue(all(type(numbers) is tuple for numbers in before))

    def test_rising(self):
        told = spread(SMALL, SMALL_START, 3)
        self.assertEqual(told, sorted(set(told)))
        self.assertEqual(told, plain_spread(SMALL, SMALL_START, 3))


if __name__ == "__main__":
    unittest.main()
