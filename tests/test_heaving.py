"""[15] walks to nearest's numbers."""

import inspect
import random
import unittest

from plainly import opposite, small_cases
from samples import (FAR, MIXED, MIXED_START, NAMES, dial, frozen, house_of, places_between, plain_rule_holds,
                     wide_house)

from pawldials.errors import Never, TooLong
from pawldials.heaving import heaves
from pawldials.nearest import nearest
from pawldials.walks import walked


class Heaves(unittest.TestCase):
    def check(self, house, here, wish, **more):
        """A walk, walked to where nearest tells."""
        walk = heaves(house, here, wish, **more)
        self.assertIs(type(walk), list)
        self.assertEqual(walked(house, here, walk), nearest(house, here, wish), (house, here, wish, walk))
        return walk

    def check_too_long(self, house, here, wish, most):
        with self.assertRaises(TooLong) as caught:
            heaves(house, here, wish, most=most)
        self.assertEqual(caught.exception.most, most)

    def test_small_houses(self):
        told = {}
        for small, here, wish in small_cases(107, 1200):
            answer = nearest(small.house, here, wish)
            if answer is None:
                for most in (0, 500):
                    with self.assertRaises(Never):
                        heaves(small.house, here, wish, most=most)
                continue
            places = places_between(here, answer[0])
            with self.subTest(house=small.house, here=here, wish=wish):
                walk = self.check(small.house, here, wish)
                self.assertEqual(self.check(small.house, here, wish, most=places), walk)
                self.assertEqual(self.check(small.house, here, wish, most=len(walk)), walk)
                if walk:
                    self.check_too_long(small.house, here, wish, len(walk) - 1)
                    self.check_too_long(small.house, here, wish, 0)
            told[min(answer[2], 3)] = told.get(min(answer[2], 3), 0) + 1
        self.assertEqual(set(told), {0, 1, 2, 3})

    def test_nothing_to_do(self):
        for most in (0, 1, 500):
            self.assertEqual(heaves(MIXED, MIXED_START, (), most=most), [])
            self.assertEqual(heaves(MIXED, MIXED_START, (("a", "least", 1),), most=most), [])

    def test_runs(self):
        house = wide_house()
        self.assertEqual(heaves(house, (0, 0), (("a", "least", FAR),)), [("run", "a", FAR)])
        self.assertEqual(heaves(house, (0, 0), (("a", "least", FAR),), most=1), [("run", "a", FAR)])
        self.check_too_long(house, (0, 0), (("a", "least", FAR),), 0)
        # b has to go ahead of a.
        house = wide_house(("off", "a", "b", 0))
        self.assertEqual(heaves(house, (0, 0), (("a", "least", FAR),)), [("run", "b", FAR), ("run", "a", FAR)])

    def test_heaves(self):
        house = wide_house(("one", ("a", "most", 5), ("a", "least", FAR - 9)))
        self.assertEqual(heaves(house, (0, 0), (("a", "least", FAR),)),
                         [("run", "a", 5), ("heave", (("a", FAR - 9),)), ("run", "a", FAR)])
        house = wide_house(("one", ("a", "most", 5), ("b", "most", -8)), ("one", ("b", "least", -7), ("a", "least", 6)))
        walk = self.check(house, (0, 0), (("a", "least", FAR), ("b", "most", -FAR)))
        self.assertEqual(sorted(walk), sorted([("run", "a", 5), ("run", "b", -7), ("heave", (("a", 6), ("b", -8))),
                                               ("run", "a", FAR), ("run", "b", -FAR)]))

    def test_dials_that_turn_at_once(self):
        house = wide_house(("off", "a", "b", 0), ("off", "b", "a", 0))
        wish = (("a", "least", 250),)
        self.assertEqual(len(self.check(house, (0, 0), wish)), 250)
        self.assertEqual(len(self.check(house, (0, 0), wish, most=250)), 250)
        self.check_too_long(house, (0, 0), wish, 249)
        wish = (("a", "least", 500),)
        self.assertEqual(len(self.check(house, (0, 0), wish)), 500)
        wish = (("a", "least", 501),)
        self.check_too_long(house, (0, 0), wish, 500)
        with self.assertRaises(TooLong) as caught:
            heaves(house, (0, 0), wish)
        self.assertEqual(caught.exception.most, 500)
        with self.assertRaises(TooLong):
            heaves(house, (0, 0), (("a", "least", FAR),))
        self.assertEqual(len(self.check(house, (0, 0), (("a", "least", 2000),), most=4000)), 2000)

    def test_the_smallest_ring_goes_ahead(self):
        # a and b turn at once, c and d do; a goes no higher than c.
        house = wide_house(("off", "a", "b", 0), ("off", "b", "a", 0), ("off", "c", "d", 0), ("off", "d", "c", 0),
                           ("off", "a", "c", 0), count=4)
        for start in (-9, -3, 0, 7):
            for wish in ((("a", "least", start + 3),), (("c", "most", start - 3),)):
                self.check(house, (start,) * 4, wish)
                self.assertEqual(nearest(house, (start,) * 4, wish)[1:], (12, 2))

    def test_dials_that_go_side_by_side(self):
        house = wide_house(("off", "a", "b", 0), ("off", "b", "a", 5), ("most", "b", "c", 0), ("least", "b", "c", -3),
                           count=3)
        self.check(house, (0, 0, 0), (("a", "least", 150),), most=450)
        self.check(house, (0, 0, 0), (("c", "least", 150),), most=450)
        with self.assertRaises(TooLong):
            heaves(house, (0, 0, 0), (("a", "least", FAR),))

    def test_twelve_dials(self):
        row = [("off", NAMES[k], NAMES[k + 1], 0) for k in range(11)] + [("off", "l", "a", 1)]
        house = wide_house(*row, count=12)
        self.check(house, (0,) * 12, (("a", "least", 30),), most=360)
        self.check(house, (0,) * 12, (("a", "most", -30),), most=360)
        bound = wide_house(*row[:11], ("off", "l", "a", 0), count=12)
        self.assertEqual(len(self.check(bound, (0,) * 12, (("a", "least", 30),))), 30)

    def great_house(self, pick, names):
        """Wide dials and either-ors alone; all hold where all dials are at 0, and where they are at their goals."""
        wide = pick.choice([4, 30, FAR])
        spot = {name: 0 for name in names}
        goal = {name: pick.choice([-wide, wide]) for name in names}
        rules = []
        for _ in range(60):
            p, q = [(pick.choice(names), pick.choice(["least", "most"]), pick.randint(-wide, wide)) for _ in range(2)]
            both = [("one", opposite(p), q), ("one", opposite(q), p)]
            gap = [("one", (p[0], "most", p[2]), (p[0], "least", p[2] + pick.randint(2, wide)))]
            for rule in pick.choice([both, gap, [("one", p, q)]]):
                if rule not in rules and plain_rule_holds(rule, spot) and plain_rule_holds(rule, goal):
                    rules.append(rule)
        house = house_of([dial(name, -FAR, FAR) for name in names], *rules[:40])
        return house, tuple((name, "least" if goal[name] > 0 else "most", goal[name]) for name in names)

    def test_either_ors_alone_are_never_too_long(self):
        pick = random.Random(109)
        longest = 0
        for _ in range(250):
            names = NAMES[:pick.randint(1, 12)]
            house, wish = self.great_house(pick, names)
            walk = self.check(house, (0,) * len(names), wish)
            longest = max(longest, len(walk))
        self.assertGreater(longest, 20)
        self.assertLessEqual(longest, 500)

    def test_where_no_dial_of_another_rule_is_turned(self):
        pick = random.Random(113)
        for _ in range(60):
            names = NAMES[2:2 + pick.randint(1, 10)]
            house, wish = self.great_house(pick, names)
            dials = (dial("a", -FAR, FAR), dial("b", -FAR, FAR)) + house[0]
            house = (dials, (("off", "a", "b", 0), ("off", "b", "a", 0)) + house[1][:38])
            self.check(house, (0,) * len(dials), wish)

    def test_never_and_most_by_name(self):
        with self.assertRaises(Never):
            heaves(MIXED, MIXED_START, (("a", "least", 9),))
        with self.assertRaises(Never):
            heaves(MIXED, MIXED_START, (("c", "most", 1),), most=0)
        with self.assertRaises(TypeError):
            heaves(MIXED, MIXED_START, (), 500)
        told = inspect.signature(heaves).parameters["most"]
        self.assertEqual((told.kind, told.default), (inspect.Parameter.KEYWORD_ONLY, 500))

    def test_nothing_is_changed_and_all_is_new(self):
        wish = (("a", "least", 5),)
        before = frozen((MIXED, wish))
        told = heaves(MIXED, MIXED_START, wish)
        again = frozen(told)
        told.clear()
        self.assertEqual(frozen(heaves(MIXED, MIXED_START, wish)), again)
        self.assertEqual(frozen((MIXED, wish)), before)


if __name__ == "__main__":
    unittest.main()
