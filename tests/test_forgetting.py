"""[22] forgetting a dial; [2] and [3] with it."""

import random
import unittest

from plainly import bound_house, bound_rules
from samples import (FAR, GREAT, MIXED, NAMES, dial, frozen, house_of, odd_things, plain_rule_holds, plain_standings,
                     random_house, random_rule, wide_house)

from pawldials.errors import NoDial, NoHouse, TooWide
from pawldials.finding import some_standing
from pawldials.forgetting import forgotten
from pawldials.houses import fault_of, is_standing
from pawldials.ruling import alike


def names_of(house):
    return [row[0] for row in house[0]]


def small_houses(seed, count):
    """Small houses of some dials, some of them without standings, some with many rules."""
    pick = random.Random(seed)
    for k in range(count):
        house = random_house(pick) if k % 2 else bound_house(pick, dials=(2, 4))
        if k % 3 == 0:
            more = [rule for _ in range(3) for rule in bound_rules(pick, house[0])] + [random_rule(pick, names_of(house))]
            house = (house[0], tuple(dict.fromkeys((*house[1], *more))))
        yield house


def without(numbers, k):
    return numbers[:k] + numbers[k + 1:]


def fixed(house, name, numbers):
    """The house with all dials but this one at just these numbers."""
    left = iter(numbers)
    dials = []
    for row in house[0]:
        i = None if row[0] == name else next(left)
        dials.append(row if i is None else (row[0], i, i, *row[3:]))
    return (tuple(dials), house[1])


def some_number_goes(house, name, numbers):
    """Whether some number of the dial makes a standing of these numbers of all others."""
    return some_standing(fixed(house, name, numbers))[0] == "standing"


class SmallHouses(unittest.TestCase):
    def test_each_dial_beside_all_standings(self):
        told = {"some": 0, "none": 0}
        for house in small_houses(501, 900):
            standings = plain_standings(house)
            for k, name in enumerate(names_of(house)):
                if len(house[0]) == 1:
                    continue
                with self.subTest(house=house, name=name):
                    left = forgotten(house, name)
                    self.assertIsNone(fault_of(left))
                    self.assertEqual(left[0], without(house[0], k))
                    self.assertEqual(plain_standings(left), sorted({without(numbers, k) for numbers in standings}))
                told["some" if standings else "none"] += 1
        self.assertGreater(min(told.values()), 200)

    def test_two_in_either_order(self):
        told = 0
        for house in small_houses(503, 250):
            names = names_of(house)
            for a in names:
                for b in names:
                    if a < b and len(names) > 2:
                        self.assertIsNone(alike(forgotten(forgotten(house, a), b), forgotten(forgotten(house, b), a)))
                        told += 1
        self.assertGreater(told, 200)

    def test_rules_of_other_dials_stay(self):
        for house in small_houses(509, 200):
            for name in names_of(house) if len(house[0]) > 1 else ():
                left = forgotten(house, name)
                for rule in house[1]:
                    spoken = [rule[1][0], rule[2][0]] if rule[0] == "one" else rule[1:3]
                    if name not in spoken:
                        for numbers in plain_standings(left):
                            self.assertTrue(plain_rule_holds(rule, dict(zip(names_of(left), numbers))))


class ByHand(unittest.TestCase):
    def look(self, rules, name, same, count=3):
        """What is left of a house with these rules, the dial wider than all others, has the standings of the same."""
        house = house_of([dial(other, -FAR, FAR) if other == name else dial(other, -FAR // 4, FAR // 4)
                          for other in NAMES[:count]], *rules)
        left = forgotten(house, name)
        others = tuple(row for row in house[0] if row[0] != name)
        self.assertEqual(left[0], others)
        self.assertIsNone(alike(left, (others, tuple(same))), left)

    def test_pairs(self):
        self.look([("off", "a", "b", 3), ("off", "b", "c", 4)], "b", [("off", "a", "c", 7)])
        self.look([("off", "a", "b", 3), ("most", "b", "c", 4)], "b", [("most", "a", "c", 7)])
        self.look([("least", "a", "b", 3), ("off", "b", "c", 4)], "b", [("least", "a", "c", -1)])
        self.look([("least", "a", "b", 3), ("most", "b", "c", 4)], "b", [("off", "c", "a", 1)])
        self.look([("off", "a", "b", 3), ("off", "c", "b", 4)], "b", [])
        self.look([], "a", [])

    def test_ends_of_the_span(self):
        house = house_of([dial("a", -50, 50), dial("b", 0, 9), dial("c", -50, 50)], ("off", "a", "b", 2), ("off", "b", "c", 1))
        one = (house[0][0], house[0][2])
        self.assertIsNone(alike(forgotten(house, "b"), (one, (("off", "a", "c", 3), ("one", ("a", "most", 11), ("a", "most", 11)),
                                                                ("one", ("c", "least", -1), ("c", "least", -1))))))

    def test_odd_numbers_are_halved(self):
        # a less b at most c, a and b together at most d: twice a is at most both together.
        for c, d, half in ((3, 4, 3), (4, 4, 4), (3, 5, 4), (-3, -4, -4), (-4, -4, -4), (-3, -3, -3), (0, -1, -1), (0, 1, 0)):
            most = ("a", "most", half)
            self.look([("off", "a", "b", c), ("most", "a", "b", d)], "b", [("one", most, most)])
            least = ("a", "least", -half)
            self.look([("off", "b", "a", c), ("least", "a", "b", -d)], "b", [("one", least, least)])

    def test_either_ors(self):
        p, q = ("a", "most", 3), ("c", "least", 8)
        self.look([("one", p, ("b", "least", 5)), ("one", ("b", "most", 4), q)], "b", [("one", p, q)])
        self.look([("one", p, ("b", "least", 5)), ("one", ("b", "most", 5), q)], "b", [])
        self.look([("one", p, ("b", "least", 5)), ("off", "b", "c", 2)], "b", [("one", p, ("c", "least", 3))])
        self.look([("one", p, ("b", "most", 5)), ("least", "b", "c", 2)], "b", [("one", p, ("c", "least", -3))])
        self.look([("one", p, ("b", "least", FAR + 1))], "b", [("one", p, p)])
        self.look([("one", p, ("b", "least", FAR))], "b", [])
        self.look([("one", p, ("b", "most", -GREAT))], "b", [("one", p, p)])
        self.look([("one", p, ("b", "most", GREAT))], "b", [])

    def test_either_ors_with_the_dial_on_both_sides(self):
        gap = ("one", ("b", "most", 10), ("b", "least", 20))
        self.look([gap], "b", [])
        # a lifts b, c holds it down: both may not leave it in the gap.
        self.look([gap, ("off", "a", "b", 0), ("off", "b", "c", 0)], "b",
                  [("off", "a", "c", 0), ("one", ("a", "most", 10), ("c", "least", 20))])
        self.look([gap, ("off", "a", "b", 0), ("off", "b", "a", 5)], "b", [("one", ("a", "most", 10), ("a", "least", 15))], 2)
        self.look([gap, ("off", "a", "b", 0), ("most", "a", "b", 40)], "b", [("one", ("a", "most", 20), ("a", "most", 10))], 2)
        self.look([gap, ("one", ("a", "most", 0), ("b", "least", 15)), ("off", "b", "c", 0)], "b",
                  [("one", ("a", "most", 0), ("c", "least", 20))])
        self.look([gap, ("one", ("b", "most", 21), ("b", "least", 25)), ("one", ("b", "most", 18), ("b", "least", 23)),
                   ("off", "a", "b", 0), ("off", "b", "c", 0)], "b", [("off", "a", "c", 0), ("one", ("a", "most", 10), ("c", "least", 25))])
        least, most = ("b", "least", 5), ("b", "most", 9)
        self.look([("one", least, ("b", "least", 7)), ("off", "b", "a", 0)], "b", [("one", ("a", "least", 5), ("a", "least", 5))])
        self.look([("one", most, most), ("one", ("b", "most", 8), most), ("off", "a", "b", 0)], "b",
                  [("one", ("a", "most", 9), ("a", "most", 9))])
        self.look([("one", least, ("b", "most", 4)), ("off", "a", "b", 0)], "b", [("one", ("a", "most", FAR), ("a", "most", FAR))])

    def test_no_number_left(self):
        never = ("one", ("a", "least", FAR + 1), ("a", "least", FAR + 1))
        for rules in ([("one", ("b", "least", 5), ("b", "least", 5)), ("one", ("b", "most", 4), ("b", "most", 4))],
                      [("one", ("b", "least", GREAT), ("b", "most", -GREAT))], [("off", "a", "b", -GREAT)],
                      [("off", "a", "b", -1), ("off", "b", "a", 0)], [("off", "c", "b", -FAR), ("off", "b", "a", -FAR - 1)],
                      [("one", ("b", "most", -FAR - 1), ("b", "least", FAR)), ("off", "b", "c", -1)]):
            self.look(rules, "b", [never])
        # The first dial may be the one that is forgotten.
        self.look([("one", ("a", "least", GREAT), ("a", "least", GREAT))], "a", [("one", ("b", "least", GREAT), ("b", "least", GREAT))])

    def test_numbers_of_the_rules_stay_small(self):
        """The numbers of two rules together may be too great for a rule."""
        rules = [("off", "a", "b", GREAT), ("off", "b", "c", GREAT), ("most", "a", "b", GREAT), ("least", "b", "c", -GREAT)]
        self.look(rules, "b", [])
        never = ("one", ("a", "least", GREAT), ("a", "least", GREAT))
        self.look([("off", "a", "b", -GREAT), ("off", "b", "c", -GREAT)], "b", [never])
        self.look([("off", "a", "b", -GREAT), ("most", "b", "c", -GREAT), ("least", "a", "b", GREAT)], "b", [never])
        self.look([("one", ("a", "most", -GREAT), ("b", "least", GREAT)), ("off", "b", "c", -GREAT)], "b", [never])

    def test_great_houses(self):
        pick = random.Random(521)
        told = {True: 0, False: 0}
        for _ in range(40):
            here = {name: pick.randint(-FAR, FAR) for name in NAMES}
            rules = []
            for _ in range(20):
                a, b = pick.sample(NAMES, 2)
                word = pick.choice(["off", "most", "least", "one"])
                much = pick.choice([0, 1, pick.randint(0, FAR)]) * (-1 if word == "least" else 1)
                if word == "one":
                    rules.append((word, (a, "least", here[a] - much), (b, pick.choice(["least", "most"]), pick.randint(-FAR, FAR))))
                else:
                    rules.append((word, a, b, (here[a] - here[b] if word == "off" else here[a] + here[b]) + much))
            house = wide_house(*dict.fromkeys(rules), count=12)
            for name in NAMES[:4]:
                left = forgotten(house, name)
                self.assertIsNone(fault_of(left))
                for _ in range(8):
                    # One dial, mostly, a little otherwise than where all is well.
                    there = dict(here)
                    for other in pick.sample(NAMES, pick.choice([0, 1, 1, 2])):
                        there[other] += pick.choice([1, -1]) * pick.choice([1, 2, pick.randint(1, FAR // 4)])
                    numbers = tuple(max(-FAR, min(FAR, there[other])) for other in NAMES if other != name)
                    good = some_number_goes(house, name, numbers)
                    told[good] += 1
                    self.assertIs(is_standing(left, numbers), good)
        self.assertGreater(min(told.values()), 100)


def star(lower, upper, gaps):
    """A house of a dial with so many rules that hold it from below, from above, and so many gaps."""
    names = [name for name in NAMES if name != "f"]
    rules = [("off", names[k], "f", 7 * k) for k in range(lower)]
    rules += [("most", "f", names[lower + k], 9 * k) for k in range(upper)]
    rules += [("one", ("f", "most", 100 * k), ("f", "least", 100 * k + 40 + k)) for k in range(gaps)]
    return wide_house(*rules, count=12)


class Widths(unittest.TestCase):
    def test_of_eight_rules_never(self):
        for lower in range(9):
            for upper in range(9 - lower):
                house = star(lower, upper, 8 - lower - upper)
                self.assertEqual(len(house[1]), 8)
                left = forgotten(house, "f")
                self.assertIsNone(fault_of(left))

    def test_eight_rules_at_random(self):
        pick = random.Random(523)
        for _ in range(300):
            rules = []
            while len(rules) < 8:
                a = pick.choice([name for name in NAMES if name != "f"])
                c = pick.randint(-200, 200)
                word = pick.choice(["off", "off", "most", "least", "one", "gap"])
                first, second = pick.sample([a, "f"], 2)
                saying = ("f", pick.choice(["least", "most"]), c)
                rule = {"one": ("one", saying, (a, pick.choice(["least", "most"]), pick.randint(-200, 200))),
                        "gap": ("one", ("f", "most", c), ("f", "least", c + pick.randint(1, 40)))}.get(word, (word, first, second, c))
                if rule not in rules:
                    rules.append(rule)
            self.assertIsNone(fault_of(forgotten(wide_house(*rules, count=12), "f")))

    def test_with_one_rule_of_the_dial_never(self):
        rest = [("one", ("a", "least", k), ("b", "least", -k)) for k in range(39)]
        for rule in (("off", "c", "a", 5), ("off", "a", "c", -5), ("most", "a", "c", 7), ("least", "c", "b", 8), ("one", ("c", "least", 4), ("a", "most", 3)),
                     ("one", ("c", "least", GREAT), ("a", "most", 3)), ("one", ("c", "least", 4), ("c", "most", 1)),
                     ("one", ("c", "least", GREAT), ("c", "most", -GREAT)), ("off", "a", "c", -GREAT)):
            house = wide_house(*rest, rule, count=3)
            self.assertEqual(len(house[1]), 40)
            left = forgotten(house, "c")
            self.assertIsNone(fault_of(left))
        # And with none of it, all forty stay.
        forty = wide_house(*rest, ("off", "a", "b", 4), count=3)
        self.assertEqual(forgotten(forty, "c")[1], forty[1])

    def test_too_wide(self):
        for house in (star(5, 6, 5), star(5, 6, 29)):
            before = frozen(house)
            with self.assertRaises(TooWide):
                forgotten(house, "f")
            self.assertEqual(frozen(house), before)
            self.assertIsNone(fault_of(forgotten(house, "a")))


class Refusals(unittest.TestCase):
    def test_no_dial(self):
        for name in [*odd_things(), "e", "", "A", ["a"], ("a",), {"a": 1}, 0, "ab"]:
            if name != "a":
                with self.subTest(name=repr(name)[:60]), self.assertRaises(NoDial):
                    forgotten(MIXED, name)
        for name in ("a", "b", None):
            with self.assertRaises(NoDial):
                forgotten(house_of([dial("a")]), name)
        for name in "abcd":
            self.assertEqual(len(forgotten(MIXED, name)[0]), 3)

    def test_the_house_goes_first(self):
        for house, fault in ((None, ("house",)), ((MIXED[0][::-1], ()), ("dial", 1)), ((MIXED[0], (None,)), ("rule", 0))):
            for name in ("a", None, []):
                with self.assertRaises(NoHouse) as caught:
                    forgotten(house, name)
                self.assertEqual(caught.exception.fault, fault)

    def test_nothing_is_changed(self):
        before = frozen(MIXED)
        self.assertEqual(forgotten(MIXED, "a"), forgotten(MIXED, "a"))
        self.assertEqual(frozen(MIXED), before)


if __name__ == "__main__":
    unittest.main()
