"""[6] numbers, standings, wishes."""

import itertools
import random
import unittest

from samples import (FAR, GREAT, MIXED, MIXED_START, dial, frozen, house_of, odd_things, plain_holds,
                     plain_rule_holds, plain_standings, random_house, wide_house)

from pawldials.errors import NoHouse, NoNumbers, NoWish
from pawldials.houses import broken, is_standing, is_wish, meets

TWO = house_of([dial("a", -3, 4), dial("b", 2, 2)])


class Numbers(unittest.TestCase):
    def check(self, house, numbers, good):
        with self.subTest(numbers=numbers):
            self.assertIs(is_standing(house, numbers), good)
            if good:
                self.assertEqual(broken(house, numbers), [])
                self.assertIs(meets(house, numbers, ()), True)
            else:
                with self.assertRaises(NoNumbers):
                    broken(house, numbers)
                with self.assertRaises(NoNumbers):
                    meets(house, numbers, ())

    def test_spans(self):
        for a in range(-3, 5):
            self.check(TWO, (a, 2), True)
        for numbers in ((-4, 2), (5, 2), (0, 1), (0, 3), (5, 3)):
            self.check(TWO, numbers, False)
        for a, b in itertools.product((-FAR, 0, FAR), repeat=2):
            self.check(wide_house(), (a, b), True)
        for a in (-FAR - 1, FAR + 1, GREAT, 10 ** 59):
            self.check(wide_house(), (a, 0), False)
            self.check(wide_house(), (0, a), False)

    def test_what_are_no_numbers(self):
        for thing in [*odd_things(), (), (0,), (0, 2, 0), [0, 2], (True, 2), (False, 2), ("0", 2), (None, 2),
                      ((0,), 2), ([0], 2), {0: 2}, ({}, 2), ((0, 2),)]:
            self.check(TWO, thing, False)
        self.check(house_of([dial("a", 0, 1)]), (True,), False)


class Broken(unittest.TestCase):
    def check_rule(self, rule, good, bad):
        house = wide_house(rule)
        for numbers in good:
            with self.subTest(rule=rule, numbers=numbers):
                self.assertEqual(broken(house, numbers), [])
                self.assertIs(is_standing(house, numbers), True)
        for numbers in bad:
            with self.subTest(rule=rule, numbers=numbers):
                self.assertEqual(broken(house, numbers), [0])
                self.assertIs(is_standing(house, numbers), False)

    def test_off(self):
        self.check_rule(("off", "a", "b", 3), [(8, 5), (7, 5), (-FAR, FAR)], [(9, 5), (FAR, -FAR)])
        self.check_rule(("off", "b", "a", -2), [(5, 3), (5, 2)], [(5, 4), (3, 5)])
        self.check_rule(("off", "a", "b", 2 * FAR), [(FAR, -FAR)], [])
        self.check_rule(("off", "a", "b", 2 * FAR - 1), [(FAR, 1 - FAR)], [(FAR, -FAR)])
        self.check_rule(("off", "a", "b", -GREAT), [], [(-FAR, FAR), (0, 0)])

    def test_most(self):
        self.check_rule(("most", "a", "b", 7), [(3, 4), (3, 3), (-FAR, FAR), (FAR, 7 - FAR)],
                        [(3, 5), (4, 4), (FAR, 8 - FAR)])
        self.check_rule(("most", "a", "b", 2 * FAR - 1), [(FAR, FAR - 1)], [(FAR, FAR)])

    def test_least(self):
        self.check_rule(("least", "a", "b", 7), [(3, 4), (3, 5), (FAR, 7 - FAR)], [(3, 3), (2, 4), (FAR, 6 - FAR)])
        self.check_rule(("least", "a", "b", 1 - 2 * FAR), [(-FAR, 1 - FAR)], [(-FAR, -FAR)])

    def test_one(self):
        self.check_rule(("one", ("a", "least", 4), ("b", "most", -4)), [(4, -4), (4, -3), (3, -4), (5, 0), (0, -5)],
                        [(3, -3), (-FAR, FAR)])
        self.check_rule(("one", ("a", "most", 4), ("a", "least", 7)), [(4, 0), (7, 0)], [(5, 0), (6, 0)])
        self.check_rule(("one", ("a", "most", 4), ("a", "most", 4)), [(4, 0)], [(5, 0)])
        self.check_rule(("one", ("a", "most", -GREAT), ("b", "least", GREAT)), [], [(-FAR, FAR)])

    def test_all_that_are_broken_rising(self):
        house = house_of([dial("a"), dial("b")], ("off", "b", "a", -20), ("most", "a", "b", 10),
                         ("least", "a", "b", 10), ("off", "a", "b", 0), ("one", ("a", "least", 5), ("b", "most", 1)))
        self.assertEqual(broken(house, (5, 5)), [0])
        self.assertEqual(broken(house, (4, 3)), [0, 2, 3, 4])
        self.assertEqual(broken(house, (9, 9)), [0, 1])
        self.assertEqual(broken(MIXED, MIXED_START), [])

    def test_as_the_words_say_in_small_houses(self):
        pick = random.Random(61)
        for _ in range(60):
            house = random_house(pick)
            names = [row[0] for row in house[0]]
            standings = plain_standings(house)
            for numbers in itertools.product(*[range(row[1], row[2] + 1) for row in house[0]]):
                now = dict(zip(names, numbers))
                wrong = [k for k, rule in enumerate(house[1]) if not plain_rule_holds(rule, now)]
                self.assertEqual(broken(house, numbers), wrong)
                self.assertIs(is_standing(house, numbers), numbers in standings)

    def test_a_told_list_is_the_askers_own(self):
        house = wide_house(("off", "a", "b", 0))
        told = broken(house, (1, 0))
        told.append(7)
        self.assertEqual(broken(house, (1, 0)), [0])


class Wishes(unittest.TestCase):
    def check(self, house, wish, good):
        with self.subTest(wish=wish):
            before = frozen(wish)
            self.assertIs(is_wish(house, wish), good)
            if not good:
                with self.assertRaises(NoWish):
                    meets(house, (0, 2), wish)
            self.assertEqual(frozen(wish), before)

    def test_counts(self):
        saying = ("a", "least", 1)
        for count in (0, 1, 2, 19, 20):
            self.check(TWO, (saying,) * count, True)
        for count in (21, 22, 4999):
            self.check(TWO, (saying,) * count, False)

    def test_sayings_far_off(self):
        for i in (GREAT, -GREAT, FAR + 1):
            self.check(TWO, (("a", "least", i), ("b", "most", i)), True)
        for i in (GREAT + 1, -GREAT - 1, 10 ** 59):
            self.check(TWO, (("a", "least", i),), False)
            self.check(TWO, (("a", "most", i),), False)

    def test_what_is_no_wish(self):
        good = ("a", "least", 1)
        for thing in [*odd_things(), [], [good], {}, good, (good, None), (None, good), ("c", "least", 1),
                      (("c", "least", 1),), (("a", "off", 1),), (("a", "least", True),), (("a", "least"),),
                      (("a", "least", 1, 1),), (["a", "least", 1],), (("", "least", 1),)]:
            self.check(TWO, thing, False)

    def test_meets_at_the_number_and_one_off(self):
        house = wide_house(("off", "a", "b", 0))
        for numbers, wish, told in (
            ((3, 5), (("a", "least", 3),), True), ((3, 5), (("a", "least", 4),), False),
            ((3, 5), (("b", "most", 5),), True), ((3, 5), (("b", "most", 4),), False),
            ((3, 5), (("a", "least", 3), ("b", "most", 5)), True),
            ((3, 5), (("a", "least", 3), ("b", "most", 4)), False),
            ((3, 5), (("a", "least", 4), ("b", "most", 5)), False),
            ((3, 5), (("a", "least", 1), ("a", "most", 2)), False),
            ((3, 5), (("a", "least", -GREAT), ("b", "most", GREAT)), True),
            ((3, 5), (("a", "least", GREAT),), False), ((3, 5), (("b", "most", -GREAT),), False),
            ((3, 5), (("a", "least", 3),) * 20, True), ((3, 5), (), True),
            # Numbers that are no standing are asked as well.
            ((5, 3), (("a", "least", 5),), True), ((5, 3), (("a", "most", 4),), False),
        ):
            with self.subTest(numbers=numbers, wish=wish):
                self.assertIs(meets(house, numbers, wish), told)

    def test_meets_as_the_words_say(self):
        pick = random.Random(62)
        for _ in range(300):
            house = random_house(pick)
            names = [row[0] for row in house[0]]
            numbers = tuple(pick.randint(row[1], row[2]) for row in house[0])
            wish = tuple((pick.choice(names), pick.choice(["least", "most"]), pick.randint(-3, 6))
                         for _ in range(pick.randint(0, 4)))
            told = all(plain_holds(saying, dict(zip(names, numbers))) for saying in wish)
            self.assertIs(meets(house, numbers, wish), told)


class Order(unittest.TestCase):
    """[3] of several refusals the one told first goes first."""

    def test_no_house_goes_ahead_of_all(self):
        for house, fault in ((None, ("house",)), (((None,), ()), ("dial", 0)), ((TWO[0], (None,)), ("rule", 0))):
            for ask in (lambda: broken(house, None), lambda: meets(house, None, None),
                        lambda: is_standing(house, None), lambda: is_wish(house, None),
                        lambda: is_standing(house, (0, 2)), lambda: is_wish(house, ())):
                with self.assertRaises(NoHouse) as caught:
                    ask()
                self.assertEqual(caught.exception.fault, fault)

    def test_no_house_of_anything(self):
        for thing in odd_things():
            for ask in (lambda: broken(thing, (0, 2)), lambda: meets(thing, (0, 2), ()),
                        lambda: is_standing(thing, (0, 2)), lambda: is_wish(thing, ())):
                with self.assertRaises(NoHouse):
                    ask()

    def test_no_numbers_goes_ahead_of_no_wish(self):
        with self.assertRaises(NoNumbers):
            meets(TWO, (9, 2), None)
        with self.assertRaises(NoWish):
            meets(TWO, (0, 2), None)


if __name__ == "__main__":
    unittest.main()
