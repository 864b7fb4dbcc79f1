"""[3] and [2] of what is asked of a standing and wishes: which refusal goes first, and that nothing is changed by it."""

import unittest

from samples import MIXED, MIXED_START, frozen, odd_things

from pawldials import heaving, nearest, orders, weakness
from pawldials.errors import (Never, NoDial, NoHouse, NoReason, NoStanding, NoStrength, NoWish, NoWishes, TooLong)

WRONG_HOUSE = (MIXED[0], MIXED[1][:2] + (("off", "a", "z", 0),))
FAR_OFF = (("a", "least", 9),)
NEAR = (("a", "least", 5),)

# Each function, with what it is handed behind the house: wrong and good things, each with its refusal.
STANDING = ("no standing", MIXED_START, NoStanding)
WISH = ("no wish", NEAR, NoWish)
WISHES = ((), [NEAR], NoWishes)
ANYTHING = (None, None, None)
ASKED = [
    (nearest.nearest, [STANDING, WISH]),
    (nearest.reason, [STANDING, WISH, ("z", "a", NoDial)]),
    (nearest.why, [STANDING, (0, FAR_OFF, NoWish)]),
    (nearest.bars, [STANDING, WISH, ANYTHING]),
    (weakness.weak, [STANDING, WISH, (-1, 0, NoStrength)]),
    (weakness.bars_weak, [STANDING, WISH, (True, 0, NoStrength), ANYTHING]),
    (heaving.heaves, [STANDING, WISH]),
    (orders.in_order, [STANDING, WISHES]),
    (orders.any_order, [STANDING, WISHES]),
    (orders.bars_order, [STANDING, WISHES, ANYTHING]),
    (orders.bars_any, [STANDING, WISHES, ANYTHING]),
    (orders.ahead, [STANDING, WISHES]),
    (orders.cheapest, [STANDING, WISHES]),
    (orders.open_now, [STANDING, WISHES]),
    (orders.till, [STANDING, WISH, ("a", "c", NoDial)]),
]


class Order(unittest.TestCase):
    def refused(self, error, call, *things):
        before = frozen(things)
        with self.subTest(call=call.__name__, things=repr(things)[:80]), self.assertRaises(error) as caught:
            call(*things)
        self.assertEqual(frozen(things), before)
        return caught.exception

    def test_the_house_goes_first(self):
        for call, rows in ASKED:
            for things in ([wrong for wrong, _, _ in rows], [good for _, good, _ in rows]):
                self.assertEqual(self.refused(NoHouse, call, WRONG_HOUSE, *things).fault, ("rule", 2))
                self.assertEqual(self.refused(NoHouse, call, None, *things).fault, ("house",))
                self.assertEqual(self.refused(NoHouse, call, (MIXED[0][1:2] * 2, ()), *things).fault, ("dial", 1))

    def test_then_each_in_its_turn(self):
        for call, rows in ASKED:
            for k, (_, _, error) in enumerate(rows):
                if error is not None:
                    ahead = [good for _, good, _ in rows[:k]]
                    self.refused(error, call, MIXED, *ahead, *[wrong for wrong, _, _ in rows[k:]])
            call(MIXED, *[good for _, good, _ in rows])

    def test_anything_for_a_standing_and_a_wish(self):
        for thing in [*odd_things(), list(MIXED_START), MIXED_START[:3], (9, 0, 2, 3), (True, 0, 2, 3), (1, 0, 2, None)]:
            for call, rows in ASKED:
                self.refused(NoStanding, call, MIXED, thing, *[wrong for wrong, _, _ in rows[1:]])
        for thing in odd_things():
            for call, rows in ASKED:
                if thing != () and rows[1][2] is NoWish:
                    self.refused(NoWish, call, MIXED, MIXED_START, thing, *[wrong for wrong, _, _ in rows[2:]])

    def test_what_comes_last(self):
        for name in ("a", "b", "d"):
            self.refused(NoReason, nearest.reason, MIXED, MIXED_START, FAR_OFF, name)
        self.refused(NoDial, nearest.reason, MIXED, MIXED_START, FAR_OFF, None)
        self.refused(NoReason, nearest.why, MIXED, MIXED_START, NEAR)
        self.refused(NoStrength, weakness.weak, MIXED, MIXED_START, FAR_OFF, None)
        self.refused(NoReason, weakness.weak, MIXED, MIXED_START, FAR_OFF, 0)
        self.refused(NoReason, weakness.weak, MIXED, MIXED_START, NEAR, 1)
        self.refused(Never, heaving.heaves, MIXED, MIXED_START, FAR_OFF)
        with self.assertRaises(Never):
            heaving.heaves(MIXED, MIXED_START, FAR_OFF, most=0)
        with self.assertRaises(TooLong):
            heaving.heaves(MIXED, MIXED_START, NEAR, most=0)
        self.refused(NoWishes, orders.spared, MIXED, MIXED_START, None)
        self.refused(NoStanding, orders.spared, MIXED, None, None)
        self.refused(NoHouse, orders.spared, None, None, None)
        self.refused(NoReason, orders.spared, MIXED, MIXED_START, [NEAR])
        self.refused(NoReason, orders.ahead, MIXED, MIXED_START, [NEAR, FAR_OFF])
        self.refused(NoWishes, orders.cheapest, MIXED, MIXED_START, [NEAR] * 6)
        self.refused(NoStanding, orders.cheapest, MIXED, None, [NEAR] * 6)


class Own(unittest.TestCase):
    def test_what_is_handed_in_stays(self):
        before = frozen((MIXED, MIXED_START, NEAR, FAR_OFF))
        for call, rows in ASKED:
            things = [good for _, good, _ in rows]
            told = frozen(call(MIXED, *things))
            self.assertEqual(frozen(call(MIXED, *things)), told)
        self.assertEqual(frozen((MIXED, MIXED_START, NEAR, FAR_OFF)), before)

    def test_told_lists_are_new(self):
        for call, things in ((nearest.reason, (NEAR, "b")), (heaving.heaves, (NEAR,)), (orders.in_order, ([NEAR],)),
                             (orders.ahead, ([NEAR, NEAR],)), (orders.open_now, ([NEAR],))):
            told = call(MIXED, MIXED_START, *things)
            again = frozen(told)
            told.append(None)
            self.assertEqual(frozen(call(MIXED, MIXED_START, *things)), again)
        paper = nearest.why(MIXED, MIXED_START, FAR_OFF)
        again = frozen(paper)
        self.assertIs(nearest.bars(MIXED, MIXED_START, FAR_OFF, paper), True)
        self.assertEqual(frozen(paper), again)
        paper[1].clear()
        self.assertEqual(frozen(nearest.why(MIXED, MIXED_START, FAR_OFF)), again)


if __name__ == "__main__":
    unittest.main()
