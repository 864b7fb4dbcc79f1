"""What a rule gives of a saying, and the least heave that comes of it."""

import random
import unittest

from samples import dial, house_of, places_between, plain_can_turn, plain_holds, plain_standings, random_house

from pawldials.giving import given
from pawldials.layout import Layout
from pawldials.pulling import least_heave

DIALS = [dial("a"), dial("b"), dial("c")]


class Given(unittest.TestCase):
    def check(self, rule, told):
        """told: what is given of each saying; nothing of all others at these numbers."""
        layout = Layout(house_of(DIALS, rule))
        for name in "abc":
            for sort in ("least", "most"):
                for i in (3, 4, 5):
                    saying = (name, sort, i)
                    with self.subTest(rule=rule, saying=saying):
                        self.assertEqual(given(layout, rule, saying), told.get(saying, []))

    def test_off(self):
        told = {("a", "least", i): [("b", "least", i - 2)] for i in (3, 4, 5)}
        told.update({("b", "most", i): [("a", "most", i + 2)] for i in (3, 4, 5)})
        self.check(("off", "a", "b", 2), told)

    def test_most(self):
        told = {("a", "least", i): [("b", "most", 7 - i)] for i in (3, 4, 5)}
        told.update({("b", "least", i): [("a", "most", 7 - i)] for i in (3, 4, 5)})
        self.check(("most", "a", "b", 7), told)

    def test_least(self):
        told = {("a", "most", i): [("b", "least", 7 - i)] for i in (3, 4, 5)}
        told.update({("b", "most", i): [("a", "least", 7 - i)] for i in (3, 4, 5)})
        self.check(("least", "a", "b", 7), told)

    def test_one(self):
        first, second = ("a", "most", 3), ("b", "least", 5)
        told = {("a", "least", 4): [second], ("a", "least", 5): [second],
                ("b", "most", 3): [first], ("b", "most", 4): [first]}
        self.check(("one", first, second), told)
        self.check(("one", second, first), told)
        self.check(("one", first, first), {("a", "least", 4): [first] * 2, ("a", "least", 5): [first] * 2})

    def test_one_of_a_saying_that_no_number_fits(self):
        second = ("b", "least", 5)
        told = {("a", sort, i): [second] for sort in ("least", "most") for i in (3, 4, 5)}
        told.update({("b", "most", i): [("a", "most", -1)] for i in (3, 4)})
        self.check(("one", ("a", "most", -1), second), told)


class LeastHeave(unittest.TestCase):
    def test_none_where_the_dial_would_have_to_go_back(self):
        up = house_of(DIALS, ("one", ("a", "most", 4), ("b", "least", 5)), ("one", ("b", "most", 4), ("a", "most", 4)))
        down = house_of(DIALS, ("one", ("a", "least", 4), ("b", "most", 3)),
                        ("one", ("b", "least", 4), ("a", "least", 4)))
        start = {"a": 4, "b": 4, "c": 4}
        self.assertIsNone(least_heave(Layout(up), start, ("a", "least", 5), 99))
        self.assertIsNone(least_heave(Layout(down), start, ("a", "most", 3), 99))
        self.assertEqual(least_heave(Layout(up), start, ("b", "least", 5), 99), {"a": 4, "b": 5, "c": 4})
        self.assertEqual(start, {"a": 4, "b": 4, "c": 4})

    def test_of_small_houses(self):
        pick = random.Random(91)
        for _ in range(400):
            house = random_house(pick)
            standings = plain_standings(house)
            if not standings:
                continue
            names = [row[0] for row in house[0]]
            start, strength = pick.choice(standings), pick.randint(0, 9)
            saying = (pick.choice(names), pick.choice(["least", "most"]), pick.randint(-3, 6))
            goals = [there for there in standings if plain_holds(saying, dict(zip(names, there)))
                     and plain_can_turn(house, start, there) and places_between(start, there) <= strength]
            told = least_heave(Layout(house), dict(zip(names, start)), saying, strength)
            with self.subTest(house=house, start=start, saying=saying, strength=strength):
                if not goals:
                    self.assertIsNone(told)
                else:
                    least = min(goals, key=lambda there: places_between(start, there))
                    self.assertEqual(told, dict(zip(names, least)))


if __name__ == "__main__":
    unittest.main()
