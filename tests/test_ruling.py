"""[21] what follows, what is needless, what is alike; [2], [3] and [10] with them."""

import random
import unittest

from plainly import bound_house, bound_rules, opposite
from samples import (FAR, GREAT, MIXED, NAMES, dial, frozen, house_of, odd_things, plain_rule_holds, plain_standings,
                     random_house, random_rule, wide_house)

from pawldials.errors import NoHouse, NoRule, Unlike
from pawldials.finding import some_standing
from pawldials.houses import broken, is_house, is_standing
from pawldials.ruling import alike, follows, needless

# b at least 10 just where a is at least 5, and nothing else.
STEP = wide_house(("one", ("a", "most", 4), ("b", "least", 10)), ("one", ("a", "least", 5), ("b", "most", 9)))
# No standing: a is below b, and b below a.
NONE = wide_house(("off", "a", "b", -1), ("off", "b", "a", -1), ("most", "a", "b", 7))


def houses(seed, count):
    """Small houses, some of them without standings."""
    pick = random.Random(seed)
    for k in range(count):
        yield pick, random_house(pick) if k % 3 else bound_house(pick)


def holds_at(rule, house, numbers):
    return plain_rule_holds(rule, dict(zip([row[0] for row in house[0]], numbers)))


class SmallHouses(unittest.TestCase):
    def test_follows_beside_all_standings(self):
        told = {}
        for pick, house in houses(401, 500):
            standings = plain_standings(house)
            names = [row[0] for row in house[0]]
            for rule in [*bound_rules(pick, house[0]), random_rule(pick, names), random_rule(pick, names), *house[1]]:
                wrong = [numbers for numbers in standings if not holds_at(rule, house, numbers)]
                answer = follows(house, rule)
                with self.subTest(house=house, rule=rule):
                    if wrong:
                        self.assertIn(answer, wrong)
                    else:
                        self.assertIsNone(answer)
                key = (rule[0], not wrong, bool(standings))
                told[key] = told.get(key, 0) + 1
        for word in ("off", "most", "least", "one"):
            self.assertGreater(min(told[(word, True, True)], told[(word, False, True)], told[(word, True, False)]), 20)

    def test_needless_beside_taking_each_rule_out(self):
        told = 0
        for _, house in houses(409, 500):
            dials, rules = house
            standings = plain_standings(house)
            good = [k for k in range(len(rules)) if plain_standings((dials, rules[:k] + rules[k + 1:])) == standings]
            answer = needless(house)
            self.assertEqual(answer, good, house)
            told += bool(answer)
        self.assertGreater(told, 100)

    def test_alike_beside_all_standings(self):
        told = {None: 0, 0: 0, 1: 0}
        for pick, house in houses(419, 700):
            rules = [rule for rule in house[1] if pick.random() < 0.7]
            rules += [rule for rule in bound_rules(pick, house[0]) if rule not in rules and pick.random() < 0.5]
            rules = list(dict.fromkeys(rules))
            pick.shuffle(rules)
            second = (tuple((*row[:3], pick.choice(["both", "up", "down"]), 7, 8) for row in house[0]), tuple(rules))
            mine, others = plain_standings(house), plain_standings(second)
            answer = alike(house, second)
            with self.subTest(house=house, second=second):
                if answer is None:
                    self.assertEqual(mine, others)
                elif answer[0] == 0:
                    self.assertIn(answer[1], [numbers for numbers in mine if numbers not in others])
                else:
                    self.assertEqual(answer[0], 1)
                    self.assertIn(answer[1], [numbers for numbers in others if numbers not in mine])
                    self.assertEqual([numbers for numbers in mine if numbers not in others], [])
            told[answer and answer[0]] += 1
        self.assertGreater(min(told.values()), 100)


class ByHand(unittest.TestCase):
    def test_rules_of_each_sort(self):
        house = wide_house(("off", "a", "b", 3), ("most", "b", "c", 10), ("least", "c", "d", 0), count=4)
        for rule, good in ((("off", "a", "b", 3), True), (("off", "a", "b", 4), True), (("off", "a", "b", 2), False),
                           (("most", "a", "c", 13), True), (("most", "c", "a", 13), True), (("most", "a", "c", 12), False),
                           (("off", "b", "d", 10), True), (("off", "b", "d", 9), False), (("off", "d", "b", 9), False),
                           (("off", "a", "d", 13), True), (("off", "a", "d", 12), False),
                           (("least", "c", "d", -1), True), (("least", "c", "d", 1), False),
                           (("one", ("a", "most", 5), ("c", "most", 8)), True), (("one", ("a", "most", 5), ("c", "most", 7)), True),
                           (("one", ("a", "most", 5), ("c", "most", 6)), False)):
            answer = follows(house, rule)
            with self.subTest(rule=rule):
                self.assertIs(answer is None, good)
                if not good:
                    self.assertIs(is_standing(house, answer), True)
                    self.assertFalse(holds_at(rule, house, answer))

    def test_either_ors(self):
        for rule, good in ((("one", ("a", "most", 4), ("b", "least", 10)), True), (("one", ("b", "least", 10), ("a", "most", 4)), True),
                           (("one", ("a", "most", 4), ("b", "least", 11)), False), (("one", ("a", "most", 3), ("b", "least", 10)), False),
                           (("one", ("a", "most", 5), ("b", "least", 9)), True), (("one", ("a", "least", 9), ("a", "most", 8)), True),
                           (("one", ("a", "least", 9), ("a", "most", 7)), False), (("one", ("a", "least", -FAR), ("b", "most", -GREAT)), True),
                           (("one", ("a", "least", GREAT), ("a", "least", GREAT)), False),
                           (("one", ("a", "most", GREAT), ("a", "most", GREAT)), True)):
            self.assertIs(follows(STEP, rule) is None, good, rule)

    def test_odd_numbers(self):
        # a and b together, and a less b, are both at most 5: so a is at most 5, though 2 * a is at most 10.
        house = wide_house(("most", "a", "b", 6), ("off", "a", "b", 5))
        for sort, i, good in (("most", 5, True), ("most", 4, False), ("least", 0, False)):
            saying = ("a", sort, i)
            self.assertIs(follows(house, ("one", saying, saying)) is None, good)

    def test_the_ends_of_numbers(self):
        house = wide_house()
        for rule, good in ((("off", "a", "b", 2 * FAR), True), (("off", "a", "b", 2 * FAR - 1), False), (("off", "a", "b", GREAT), True),
                           (("off", "a", "b", -GREAT), False), (("most", "a", "b", GREAT), True), (("most", "a", "b", -GREAT), False),
                           (("least", "a", "b", -GREAT), True), (("least", "a", "b", GREAT), False), (("least", "a", "b", -2 * FAR), True),
                           (("least", "a", "b", 1 - 2 * FAR), False)):
            self.assertIs(follows(house, rule) is None, good, rule)
            # Of a house without standings all follow.
            self.assertIsNone(follows(NONE, rule))

    def test_houses_without_standings(self):
        self.assertEqual(needless(NONE), [2])
        self.assertEqual(needless(wide_house(("off", "a", "b", -GREAT))), [])
        self.assertEqual(needless(wide_house(("off", "a", "b", -GREAT), ("off", "b", "a", -GREAT))), [0, 1])
        other = wide_house(("least", "a", "b", GREAT))
        self.assertIsNone(alike(NONE, other))
        self.assertIsNone(alike(other, NONE))
        self.assertEqual(alike(NONE, STEP)[0], 1)
        self.assertEqual(alike(STEP, NONE)[0], 0)

    def test_needless_each_by_itself(self):
        # Either of the first two follows from the other one: both are told.
        house = wide_house(("most", "a", "b", 5), ("most", "b", "a", 5), ("off", "a", "b", 0), ("off", "a", "b", 1), ("off", "b", "a", 3))
        self.assertEqual(needless(house), [0, 1, 3])
        self.assertEqual(needless(wide_house()), [])
        self.assertEqual(needless(wide_house(("off", "a", "b", 2 * FAR), ("one", ("a", "least", 4), ("a", "most", 3)))), [0, 1])

    def test_forty_rules(self):
        rules = [("off", "a", "b", k) for k in range(40)]
        self.assertEqual(needless(wide_house(*rules)), list(range(1, 40)))
        self.assertEqual(needless(wide_house(*rules[::-1])), list(range(39)))
        self.assertIsNone(follows(wide_house(*rules), ("off", "a", "b", 0)))
        self.assertIsNotNone(follows(wide_house(*rules), ("off", "a", "b", -1)))
        self.assertIsNone(alike(wide_house(*rules), wide_house(rules[0])))
        self.assertEqual(alike(wide_house(*rules), wide_house(rules[1]))[0], 1)

    def test_alike(self):
        other = house_of([dial("a", -FAR, FAR, "up", 4, 5), dial("b", -FAR, FAR, "down", 6, 7)], *STEP[1][::-1])
        self.assertIsNone(alike(STEP, other))
        self.assertIsNone(alike(other, STEP))
        looser = (STEP[0], STEP[1][:1])
        place, numbers = alike(STEP, looser)
        self.assertEqual((place, broken(STEP, numbers), broken(looser, numbers)), (1, [1], []))
        place, numbers = alike(looser, STEP)
        self.assertEqual((place, broken(STEP, numbers), broken(looser, numbers)), (0, [1], []))
        # Where each has a standing of its own, that of the first is told.
        self.assertEqual(alike((STEP[0], STEP[1][:1]), (STEP[0], STEP[1][1:]))[0], 0)

    def test_great_houses(self):
        pick = random.Random(431)
        told = {True: 0, False: 0}
        for _ in range(12):
            here = {name: pick.randint(-FAR, FAR) for name in NAMES}
            rules = []
            for k in range(40):
                a, b = pick.sample(NAMES, 2)
                word = pick.choice(["off", "most", "least", "one"])
                much = pick.choice([0, 1, pick.randint(0, FAR)]) * (-1 if word == "least" else 1)
                if word == "one":
                    rules.append((word, (a, "least", here[a] - much), (b, pick.choice(["least", "most"]), pick.randint(-FAR, FAR))))
                else:
                    rules.append((word, a, b, (here[a] - here[b] if word == "off" else here[a] + here[b]) + much))
            house = wide_house(*dict.fromkeys(rules), count=12)
            self.assertEqual(some_standing(house)[0], "standing")
            out = needless(house)
            for k, rule in enumerate(house[1]):
                rest = (house[0], house[1][:k] + house[1][k + 1:])
                numbers = follows(rest, rule)
                told[k in out] += 1
                self.assertIs(numbers is None, k in out)
                if numbers is not None:
                    self.assertEqual((broken(rest, numbers), broken(house, numbers)), ([], [k]))
                    self.assertEqual(alike(rest, house)[0], 0)
                else:
                    self.assertIsNone(alike(rest, house))
        self.assertGreater(min(told.values()), 50)


class Refusals(unittest.TestCase):
    def refused(self, error, call, *things):
        before = frozen(things)
        with self.subTest(call=call.__name__, things=repr(things)[:80]), self.assertRaises(error) as caught:
            call(*things)
        self.assertEqual(frozen(things), before)
        return caught.exception

    def test_no_rule(self):
        wrong = [("off", "a", "z", 0), ("off", "z", "a", 0), ("off", "a", "a", 0), ("most", "b", "b", 3), ("least", "a", "a", 1),
                 ("off", "a", "b", True), ("off", "a", "b", GREAT + 1), ("off", "a", "b", -GREAT - 1), ("off", "a", "b"),
                 ("off", "a", "b", 0, 0), ["off", "a", "b", 0], ("one", ("a", "least", 1)), ("one", ("a", "least", 1), ("z", "least", 1)),
                 ("one", ("a", "least", 1), ("b", "most", False)), ("one", ("a", "least", 1), ["b", "most", 1]), ("two", "a", "b", 0),
                 ("one", "a", "b", 0), ("off", ("a", "least", 1), ("b", "least", 1)), ("one", ("a", "off", 1), ("b", "most", 1)),
                 ("a", "least", 1), (["off"], "a", "b", 0), ({}, None, None), ("off", ["a"], "b", 0)]
        for rule in [*wrong, *[thing for thing in odd_things() if thing != ("off", "a", "b", 0)]]:
            self.refused(NoRule, follows, STEP, rule)
            self.refused(NoRule, follows, NONE, rule)

    def test_the_house_goes_first(self):
        self.assertEqual(self.refused(NoHouse, follows, None, None).fault, ("house",))
        self.assertEqual(self.refused(NoHouse, follows, (STEP[0][::-1], ()), None).fault, ("dial", 1))
        self.assertEqual(self.refused(NoHouse, needless, (STEP[0], STEP[1] * 2)).fault, ("rule", 2))
        for thing in odd_things():
            self.assertFalse(is_house(thing))
            self.refused(NoHouse, needless, thing)
            self.refused(NoHouse, follows, thing, None)

    def test_of_two_houses_the_first_goes_first(self):
        wrong = (STEP[0], STEP[1] * 2)
        self.assertEqual(self.refused(NoHouse, alike, wrong, None).fault, ("rule", 2))
        self.assertEqual(self.refused(NoHouse, alike, None, wrong).fault, ("house",))
        self.assertEqual(self.refused(NoHouse, alike, STEP, wrong).fault, ("rule", 2))
        self.assertEqual(self.refused(NoHouse, alike, MIXED, wrong).fault, ("rule", 2))

    def test_unlike(self):
        two = [dial("a", 0, 9), dial("b", 0, 9)]
        house = house_of(two)
        for others in (two[:1], two[1:], [*two, dial("c", 0, 9)], [dial("a", 0, 9), dial("c", 0, 9)], [dial("a", 1, 9), two[1]],
                       [two[0], dial("b", 0, 8)], [dial("a", -1, 9), two[1]]):
            self.refused(Unlike, alike, house, house_of(others))
            self.refused(Unlike, alike, house_of(others), house)
        # Other ways and prices are none of it.
        self.assertIsNone(alike(house, house_of([dial("a", 0, 9, "up", 5, 6), dial("b", 0, 9, "down", 7, 8)])))

    def test_nothing_is_changed_and_all_is_new(self):
        house = wide_house(("off", "a", "b", 0), ("off", "a", "b", 1))
        before = frozen(house)
        answer = needless(house)
        answer.append(None)
        self.assertEqual(needless(house), [1])
        self.assertEqual([follows(house, ("off", "b", "a", 0)) for _ in range(2)], [follows(house, ("off", "b", "a", 0))] * 2)
        self.assertEqual(alike(house, wide_house()), alike(house, wide_house()))
        self.assertEqual(frozen(house), before)


class Opposites(unittest.TestCase):
    def test_a_rule_against_itself(self):
        """With each saying of an either-or, a house has a standing just where the opposite one doesn't follow."""
        for pick, house in houses(433, 120):
            name, low, high, *_ = pick.choice(house[0])
            saying = (name, pick.choice(["least", "most"]), pick.randint(low, high))
            rule, other = ("one", saying, saying), ("one", opposite(saying), opposite(saying))
            if rule not in house[1]:
                more = (house[0], (*house[1], rule))
                self.assertIs(follows(house, other) is None, some_standing(more)[0] != "standing")


if __name__ == "__main__":
    unittest.main()
