"""[14] papers that bar walks of too little strength."""

import unittest

from plainly import otherwise, plain_bars_weak, small_cases
from samples import FAR, MIXED, MIXED_START, NAMES, dial, frozen, house_of, odd_things, wide_house

from pawldials.errors import NoReason, NoStrength
from pawldials.nearest import nearest
from pawldials.weakness import bars_weak, weak

# Six places turn at once: a's from 3 to 7, and b's 4.
BOUND = house_of([dial("a"), dial("b")], ("one", ("a", "most", 2), ("b", "least", 4)),
                 ("one", ("b", "most", 3), ("a", "least", 7)))
WISH = (("a", "least", 5),)
CHAIN = [(("a", "least", 5), None)]
ROUND = [(("a", "least", 5), None), (("b", "least", 4), 0), (("a", "least", 7), 1)]
LOWER = [*ROUND, (("a", "least", 3), -1), (("b", "least", 4), 0), (("a", "least", 7), 1)]


class SmallHouses(unittest.TestCase):
    def test_each_strength(self):
        told = 0
        for small, here, wish in small_cases(97, 900):
            answer = nearest(small.house, here, wish)
            if answer is None:
                for strength in (0, 1, FAR):
                    with self.assertRaises(NoReason):
                        weak(small.house, here, wish, strength)
                continue
            for strength in range(answer[2]):
                paper = weak(small.house, here, wish, strength)
                with self.subTest(house=small.house, here=here, wish=wish, strength=strength, paper=paper):
                    self.assertIs(plain_bars_weak(small.house, here, wish, strength, paper), True)
                    self.assertIs(bars_weak(small.house, here, wish, strength, paper), True)
                    self.assertIs(bars_weak(small.house, here, wish, answer[2], paper), False)
                told += strength > 0
            for strength in (answer[2], answer[2] + 1, 10 ** 59):
                with self.assertRaises(NoReason):
                    weak(small.house, here, wish, strength)
        self.assertGreater(told, 50)

    def test_the_same_with_one_thing_otherwise(self):
        told = {True: 0, False: 0}
        for small, here, wish in small_cases(101, 900):
            answer = nearest(small.house, here, wish)
            if answer is None or answer[2] < 2:
                continue
            paper = weak(small.house, here, wish, answer[2] - 1)
            if len(repr(paper)) > 700:
                continue
            for thing in otherwise(paper):
                for strength in (answer[2] - 2, answer[2] - 1):
                    good = plain_bars_weak(small.house, here, wish, strength, thing)
                    told[good] += 1
                    self.assertIs(bars_weak(small.house, here, wish, strength, thing), good, (small.house, here, thing))
        self.assertGreater(min(told.values()), 500)

    def test_nothing_bars_what_is_met_by_this_strength(self):
        held = 0
        for small, here, wish in small_cases(103, 500):
            answer = nearest(small.house, here, wish)
            if answer is None or answer[2] < 2:
                continue
            paper = weak(small.house, here, wish, answer[2] - 1)
            for there in small.standings:
                least = small.strength(there, wish) if small.goals(there, wish) else FAR
                for strength in range(0, 7):
                    if bars_weak(small.house, there, wish, strength, paper):
                        self.assertGreater(least, strength)
                        held += 1
        self.assertGreater(held, 50)


class ByHand(unittest.TestCase):
    def check(self, paper, strength, good, wish=WISH, house=BOUND, here=(0, 0)):
        with self.subTest(paper=paper, strength=strength):
            self.assertIs(bars_weak(house, here, wish, strength, paper), good)

    def test_sizes(self):
        self.assertEqual(nearest(BOUND, (0, 0), WISH), ((7, 4), 11, 6))
        for strength in range(6):
            self.check(weak(BOUND, (0, 0), WISH, strength), strength, True)
        # a's 5 to 7 and b's 4, by one round; a's 3 to 7 and b's 4 by the other one.
        self.check((CHAIN, [ROUND]), 3, True)
        self.check((CHAIN, [ROUND]), 4, False)
        self.check((CHAIN, [LOWER]), 5, True)
        self.check((CHAIN, [LOWER]), 6, False)
        self.check((CHAIN, [ROUND, LOWER]), 5, True)
        self.check((CHAIN, [CHAIN]), 0, True)
        self.check((CHAIN, [CHAIN]), 1, False)

    def test_counts_of_rounds(self):
        self.check((CHAIN, []), 0, False)
        self.check((CHAIN, [CHAIN] * 24), 0, True)
        self.check((CHAIN, [LOWER] * 24), 5, True)
        self.check((CHAIN, [CHAIN] * 25), 0, False)
        self.check((CHAIN, [LOWER] * 25), 0, False)
        self.check((CHAIN, (LOWER,)), 0, False)
        self.check((CHAIN, [LOWER, None]), 0, False)

    def test_where_a_round_begins_and_ends(self):
        self.check((CHAIN, [ROUND[:2]]), 0, False)
        self.check((CHAIN, [[(("a", "least", 6), None)]]), 0, False)
        self.check((CHAIN, [[(("a", "least", 4), None), (("b", "least", 4), 0), (("a", "least", 7), 1)]]), 0, False)
        self.check((CHAIN, [[*ROUND, (("a", "least", 4), -1)]]), 0, False)
        self.check((CHAIN, [[*ROUND, (("a", "least", 5), -1)]]), 3, True)

    def test_what_holds_already(self):
        for here in ((7, 4), (8, 9)):
            self.check((CHAIN, [ROUND]), 0, False, here=here)
            with self.assertRaises(NoReason):
                weak(BOUND, here, WISH, 0)
        # The chain has to come from the wish, and to end at where the rounds begin.
        self.check((CHAIN, [ROUND]), 0, False, wish=(("a", "least", 6),))
        self.check(([(("a", "least", 6), None), (("a", "least", 5), -1)], [ROUND]), 3, True, wish=(("a", "least", 6),))
        self.check((ROUND, [ROUND]), 0, False)
        self.check(([*CHAIN, (("a", "least", 0), -1)], [[(("a", "least", 0), None)]]), 0, False)

    def test_strengths(self):
        for strength in [*odd_things(), -1, True, False, None, "1", (1,), [0]]:
            if type(strength) is int and strength >= 0:
                continue
            with self.assertRaises(NoStrength):
                weak(BOUND, (0, 0), WISH, strength)
            with self.assertRaises(NoStrength):
                bars_weak(BOUND, (0, 0), WISH, strength, None)
        for strength in (6, 7, 10 ** 59):
            with self.assertRaises(NoReason):
                weak(BOUND, (0, 0), WISH, strength)
            self.check((CHAIN, [LOWER]), strength, False)
        with self.assertRaises(NoReason):
            weak(MIXED, MIXED_START, (), 0)

    def test_of_anything(self):
        for paper in [*odd_things(), (CHAIN,), (CHAIN, [ROUND], None), [CHAIN, [ROUND]], (CHAIN, ROUND), (None, [ROUND]),
                      (CHAIN, None), ((), []), ([], []), ([None], [None]), (CHAIN, {0: ROUND}), (CHAIN, [[None]])]:
            self.check(paper, 0, False)

    def test_twelve_dials(self):
        row = [("off", NAMES[k], NAMES[k + 1], k) for k in range(11)] + [("off", NAMES[k + 1], NAMES[k], -k) for k in range(11)]
        house = wide_house(*row, ("one", ("c", "most", -FAR // 2), ("c", "least", FAR // 2)), count=12)
        here = [-FAR // 2 - 999 for _ in NAMES]
        for k in range(11):
            here[k + 1] = here[k] - k
        here = tuple(here)
        wish = (("l", "least", 0),)
        numbers, price, strength = nearest(house, here, wish)
        self.assertEqual(strength, 12 * FAR)
        for much in (0, 11, 12, FAR, 12 * FAR - 1):
            paper = weak(house, here, wish, much)
            self.assertIs(bars_weak(house, here, wish, much, paper), True)
            self.assertLessEqual(len(paper[1]), 24)
        self.assertIs(bars_weak(house, here, wish, 12 * FAR, paper), False)
        with self.assertRaises(NoReason):
            weak(house, here, wish, 12 * FAR)

    def test_nothing_is_changed_and_all_is_new(self):
        before = frozen((BOUND, WISH, CHAIN, ROUND))
        told = weak(BOUND, (0, 0), WISH, 3)
        again = frozen(told)
        self.assertIs(bars_weak(BOUND, (0, 0), WISH, 3, told), True)
        self.assertEqual(frozen(told), again)
        told[0].clear()
        told[1][0].clear()
        told[1].append(None)
        self.assertEqual(frozen(weak(BOUND, (0, 0), WISH, 3)), again)
        self.assertEqual(frozen((BOUND, WISH, CHAIN, ROUND)), before)


if __name__ == "__main__":
    unittest.main()
