"""[12] and [13]: the nearest standing, reasons, and papers that bar a wish; [8] and [11] as they go with them."""

import unittest

from plainly import names_of, otherwise, plain_bars, plain_chain, small_cases
from samples import FAR, GREAT, MIXED, MIXED_START, NAMES, dial, house_of, odd_things, wide_house

from pawldials.chains import is_chain
from pawldials.errors import NoDial, NoReason, TooWide
from pawldials.nearest import bars, nearest, reason, why
from pawldials.rings import ring
from pawldials.walks import spread

# a turns up alone, b down alone, c both ways.
PAWLS = house_of([dial("a", 0, 9, "up"), dial("b", 0, 9, "down"), dial("c", 0, 9)], ("off", "a", "c", 2),
                 ("most", "b", "c", 12))
PAWLS_START = (4, 6, 3)


class SmallHouses(unittest.TestCase):
    def test_nearest(self):
        told = {}
        for small, here, wish in small_cases(53, 900):
            answer = nearest(small.house, here, wish)
            with self.subTest(house=small.house, here=here, wish=wish):
                self.assertEqual(answer, small.nearest(here, wish))
            key = "none" if answer is None else min(answer[2], 4)
            told[key] = told.get(key, 0) + 1
        self.assertEqual(set(told), {"none", 0, 1, 2, 3, 4})

    def test_nearest_from_each_standing(self):
        for small, _, wish in small_cases(59, 60):
            for here in small.standings:
                self.assertEqual(nearest(small.house, here, wish), small.nearest(here, wish), (small.house, here, wish))

    def test_the_strength_is_the_size_of_the_greatest_ring(self):
        for small, here, wish in small_cases(61, 300):
            answer = nearest(small.house, here, wish)
            if answer is None:
                continue
            sizes = [0]
            for name, a, b in zip(small.names, here, answer[0]):
                for i in range(min(a, b) + 1, max(a, b) + 1):
                    sizes.append(sum(last - first + 1 for _, first, last, _ in ring(small.house, (name, i))))
            self.assertEqual(answer[2], max(sizes), (small.house, here, wish))

    def test_spread_agrees(self):
        for small, here, wish in small_cases(67, 200):
            answer = nearest(small.house, here, wish)
            for strength in (1, 2, 3):
                met = any(small.meets(there, wish) for there in spread(small.house, here, strength))
                self.assertIs(met, answer is not None and answer[2] <= strength)
                if met:
                    self.assertIn(answer[0], spread(small.house, here, strength))

    def test_reason_of_each_dial(self):
        told = 0
        for small, here, wish in small_cases(71, 500):
            answer = nearest(small.house, here, wish)
            for name, a, b in zip(small.names, here, here if answer is None else answer[0]):
                if a == b:
                    with self.assertRaises(NoReason):
                        reason(small.house, here, wish, name)
                    continue
                chain = reason(small.house, here, wish, name)
                with self.subTest(house=small.house, here=here, wish=wish, chain=chain):
                    self.assertIs(plain_chain(small.house, chain), True)
                    self.assertIn(chain[0][0], wish)
                    self.assertEqual(chain[-1][0], (name, "least" if b > a else "most", b))
                told += 1
        self.assertGreater(told, 200)

    def test_just_one_of_two_is_told(self):
        told = {}
        for small, here, wish in small_cases(73, 900):
            if small.goals(here, wish):
                with self.assertRaises(NoReason):
                    why(small.house, here, wish)
                continue
            self.assertIsNone(nearest(small.house, here, wish))
            paper = why(small.house, here, wish)
            with self.subTest(house=small.house, here=here, wish=wish, paper=paper):
                self.assertIs(plain_bars(small.house, here, wish, paper), True)
                self.assertIs(bars(small.house, here, wish, paper), True)
            told[paper[0]] = told.get(paper[0], 0) + 1
        self.assertGreater(told["clash"], 50)

    def test_papers_of_pawls(self):
        told = {}
        for small, here, _ in small_cases(79, 250, ways=("up", "down")):
            for k, (name, low, high, *_) in enumerate(small.house[0]):
                for saying in ((name, "most", here[k] - 1), (name, "least", here[k] + 1)):
                    wish = (saying,)
                    answer = nearest(small.house, here, wish)
                    self.assertEqual(answer, small.nearest(here, wish))
                    if answer is None:
                        paper = why(small.house, here, wish)
                        told[paper[0]] = told.get(paper[0], 0) + 1
                        self.assertIs(plain_bars(small.house, here, wish, paper), True)
                        self.assertIs(bars(small.house, here, wish, paper), True)
        self.assertGreater(min(told["clash"], told["pawl"]), 50)


class Looker(unittest.TestCase):
    def test_the_same_with_one_thing_otherwise(self):
        told = {True: 0, False: 0}
        papers = 0
        for small, here, wish in small_cases(83, 1500):
            if small.goals(here, wish) or papers == 60:
                continue
            papers += 1
            paper = why(small.house, here, wish)
            for thing in otherwise(paper):
                good = plain_bars(small.house, here, wish, thing)
                told[good] += 1
                self.assertIs(bars(small.house, here, wish, thing), good, (small.house, here, wish, thing))
        self.assertGreater(min(told.values()), 100)

    def test_nothing_bars_what_can_be_met(self):
        """Papers against one wish, and the same with one thing otherwise, held up against wishes that can be met."""
        cases = list(small_cases(89, 400, ways=("both", "up", "down")))
        held = 0
        for small, here, wish in cases:
            if small.goals(here, wish):
                continue
            paper = why(small.house, here, wish)
            for there in small.standings:
                goals = small.goals(there, wish)
                for thing in [paper, *otherwise(paper)]:
                    if bars(small.house, there, wish, thing):
                        self.assertEqual(goals, [])
                        held += 1
        self.assertGreater(held, 100)

    def test_by_hand(self):
        # c at most 1 wants a at most 3: a stands at 4 and turns up alone.
        wish = (("c", "most", 1),)
        good = [(("c", "most", 1), None), (("a", "most", 3), 0)]
        self.assertIsNone(nearest(PAWLS, PAWLS_START, wish))
        self.assertIs(bars(PAWLS, PAWLS_START, wish, ("pawl", good)), True)
        self.assertIs(bars(PAWLS, PAWLS_START, wish, ("clash", good)), False)
        self.assertIs(bars(PAWLS, (3, 6, 3), wish, ("pawl", good)), False)
        self.assertIs(bars(PAWLS, PAWLS_START, (("c", "most", 2),), ("pawl", good)), False)
        self.assertIs(bars(PAWLS, PAWLS_START, wish, ("pawl", good[:1])), False)
        self.assertIs(bars(PAWLS, PAWLS_START, wish, ("pawl", [*good, (("a", "most", 4), -1)])), False)
        # A dial without a pawl bars by no pawl, whatever is said of it.
        wish = (("c", "least", 10),)
        self.assertIs(bars(PAWLS, PAWLS_START, wish, ("pawl", [(wish[0], None)])), False)
        self.assertIs(bars(PAWLS, PAWLS_START, wish, ("clash", [(wish[0], None)])), True)
        # What no number of its span fits is in no pawl's way.
        for saying in (("a", "least", 10), ("a", "most", -1), ("b", "most", -1), ("b", "least", 10), ("b", "least", 7),
                       ("a", "most", 3)):
            self.assertIs(bars(PAWLS, PAWLS_START, (saying,), ("pawl", [(saying, None)])), True)
        for saying in (("a", "least", 9), ("a", "most", 4), ("b", "most", 0), ("b", "least", 6)):
            self.assertIs(bars(PAWLS, PAWLS_START, (saying,), ("pawl", [(saying, None)])), False)

    def test_clashes_by_hand(self):
        house = wide_house(("off", "a", "b", 0))
        wish = (("a", "least", 5), ("b", "most", 4))
        one = [(("a", "least", 5), None), (("b", "least", 5), 0)]
        two = [(("b", "most", 4), None), (("a", "most", 4), 0)]
        for chain in (one, two):
            self.assertIs(bars(house, (0, 0), wish, ("clash", chain)), True)
            self.assertIs(bars(house, (0, 0), wish[:1], ("clash", chain)), False)
            self.assertIs(bars(house, (0, 0), wish[1:], ("clash", chain)), False)
            self.assertIs(bars(house, (0, 0), wish, ("clash", chain[1:])), False)
        self.assertIs(bars(house, (0, 0), (("a", "least", 5), ("b", "most", 5)), ("clash", one)), False)
        # What holds nowhere denies a saying of another dial, too.
        wish = (("a", "least", FAR),)
        house = wide_house(("off", "a", "b", -1))
        self.assertEqual(why(house, (0, 1), wish), ("clash", [(wish[0], None), (("b", "least", FAR + 1), 0)]))

    def test_of_anything(self):
        wish = (("a", "least", 99),)
        for paper in [*odd_things(), ("clash",), ("clash", []), ("pawl", None), ("clash", [(wish[0], None)], None),
                      ["clash", [(wish[0], None)]], ("clash", ((wish[0], None),)), ("", [(wish[0], None)]),
                      (["clash"], [(wish[0], None)]), (None, [(wish[0], None)])]:
            self.assertIs(bars(MIXED, MIXED_START, wish, paper), False)
        self.assertIs(bars(MIXED, MIXED_START, wish, ("clash", [(wish[0], None)])), True)
        self.assertIs(bars(MIXED, MIXED_START, (), ("clash", [(wish[0], None)])), False)


class Plain(unittest.TestCase):
    def test_what_is_met_already(self):
        for wish in ((), (("a", "least", 1),), (("a", "least", -GREAT), ("c", "most", GREAT))):
            self.assertEqual(nearest(MIXED, MIXED_START, wish), (MIXED_START, 0, 0))

    def test_prices(self):
        # a up by 2 each; with b, which it pulls, at 5 each.
        self.assertEqual(nearest(MIXED, MIXED_START, (("a", "least", 3),)), ((3, 0, 2, 3), 4, 1))
        self.assertEqual(nearest(MIXED, MIXED_START, (("a", "least", 5),)), ((5, 2, 2, 3), 18, 1))
        self.assertEqual(nearest(MIXED, MIXED_START, (("b", "most", -3),)), ((0, -3, 2, 3), 3 + 21, 1))
        self.assertEqual(nearest(MIXED, MIXED_START, (("c", "least", 5),)), ((1, 0, 5, 0), 33 + 57, 1))
        self.assertEqual(nearest(MIXED, MIXED_START, (("a", "most", 0), ("a", "least", 0))), ((0, 0, 2, 3), 3, 1))

    def test_pawls(self):
        self.assertEqual(nearest(PAWLS, PAWLS_START, (("a", "least", 7),)), ((7, 6, 5, ), 5, 1))
        self.assertIsNone(nearest(PAWLS, PAWLS_START, (("a", "most", 3),)))
        self.assertEqual(nearest(PAWLS, PAWLS_START, (("b", "most", 2),)), ((4, 2, 3), 4, 1))
        self.assertIsNone(nearest(PAWLS, PAWLS_START, (("b", "least", 7),)))
        self.assertEqual(nearest(PAWLS, PAWLS_START, (("c", "most", 2),)), ((4, 6, 2), 1, 1))
        self.assertIsNone(nearest(PAWLS, PAWLS_START, (("c", "most", 1),)))
        self.assertEqual(nearest(PAWLS, PAWLS_START, (("c", "least", 9),)), ((4, 3, 9), 9, 1))

    def test_strengths(self):
        gap = house_of([dial("a", 0, 99)], ("one", ("a", "most", 10), ("a", "least", 40)))
        self.assertEqual(nearest(gap, (3,), (("a", "least", 10),)), ((10,), 7, 1))
        self.assertEqual(nearest(gap, (3,), (("a", "least", 11),)), ((40,), 37, 30))
        self.assertEqual(nearest(gap, (60,), (("a", "most", 39),)), ((10,), 50, 30))
        row = [("off", NAMES[k], NAMES[k + 1], 0) for k in range(11)] + [("off", "l", "a", 0)]
        house = wide_house(*row, count=12)
        self.assertEqual(nearest(house, (0,) * 12, (("f", "least", FAR),)), ((FAR,) * 12, 12 * FAR, 12))
        self.assertEqual(nearest(house, (0,) * 12, (("f", "most", -1),)), ((-1,) * 12, 12, 12))
        # The greatest ring lies on the way, and not at its end.
        far = wide_house(("one", ("a", "most", 10), ("a", "least", 10 + FAR // 2)))
        self.assertEqual(nearest(far, (0, 0), (("a", "least", FAR),)), ((FAR, 0), FAR, FAR // 2))
        self.assertEqual(nearest(far, (0, 0), (("a", "least", 10),)), ((10, 0), 10, 1))
        self.assertEqual(nearest(far, (11 + FAR // 2, 0), (("a", "least", FAR),))[2], 1)

    def test_a_ring_through_several_either_ors(self):
        # a at least 5 just where b is at most -3 just where c is at least 100, with a gap in c.
        house = wide_house(("one", ("a", "most", 4), ("b", "most", -3)), ("one", ("b", "least", -2), ("c", "least", 100)),
                           ("one", ("c", "most", 60), ("a", "least", 5)), count=3)
        self.assertEqual(nearest(house, (0, 0, 0), (("a", "least", 9),)), ((9, -3, 100), 9 + 3 + 100, 42))
        self.assertEqual(ring(house, ("c", 80)), [("a", 5, 5, True), ("b", -2, -2, False), ("c", 61, 100, True)])

    def test_wide(self):
        house = wide_house(("off", "a", "b", -7), ("most", "b", "c", 0), ("one", ("c", "least", 1 - FAR), ("d", "least", 3)),
                           count=4)
        wish = (("a", "least", FAR - 7),)
        self.assertEqual(nearest(house, (0, 9, -9, 0), wish), ((FAR - 7, FAR, -FAR, 3), 3 * FAR - 22, 1))
        self.assertEqual(reason(house, (0, 9, -9, 0), wish, "d"),
                         [(wish[0], None), (("b", "least", FAR), 0), (("c", "most", -FAR), 1), (("d", "least", 3), 2)])
        self.assertIsNone(nearest(house, (0, 9, -9, 0), (("a", "least", FAR - 6),)))
        for saying in (("a", "least", GREAT), ("b", "most", -GREAT)):
            for wish in ((saying,), (("c", "most", 9), saying), (("a", "least", -GREAT), saying)):
                self.assertIsNone(nearest(house, (0, 9, -9, 0), wish))
                self.assertEqual(why(house, (0, 9, -9, 0), wish), ("clash", [(saying, None)]))

    def test_long_chains(self):
        rules = [("off", NAMES[k], NAMES[k + 1], 0) for k in range(11)]
        rules += [("one", ("l", "most", max(0, 10 * k - 1)), ("a", "least", 10 * k + 10)) for k in range(29)]
        house = wide_house(*rules, count=12)
        numbers, price, strength = nearest(house, (0,) * 12, (("a", "least", 1),))
        self.assertEqual((numbers, price), ((290,) * 12, 290 * 12))
        chain = reason(house, (0,) * 12, (("a", "least", 1),), "l")
        self.assertIs(is_chain(house, chain), True)
        self.assertEqual(len(chain), 30 * 12)
        self.assertEqual(strength, sum(last - first + 1 for _, first, last, _ in ring(house, ("a", 290))))

    def test_reason(self):
        wish = (("a", "least", 5),)
        self.assertEqual(reason(MIXED, MIXED_START, wish, "a"), [(wish[0], None)])
        self.assertEqual(reason(MIXED, MIXED_START, wish, "b"), [(wish[0], None), (("b", "least", 2), 0)])
        for name in "cd":
            with self.assertRaises(NoReason):
                reason(MIXED, MIXED_START, wish, name)
        for wish in ((), (("a", "least", 9),)):
            for name in "abcd":
                with self.assertRaises(NoReason):
                    reason(MIXED, MIXED_START, wish, name)
        for name in [*odd_things(), "e", "", "A", ("a",), ["a"], None]:
            if name != "a":
                for wish in ((), (("a", "least", 5),), (("a", "least", 9),)):
                    with self.assertRaises(NoDial):
                        reason(MIXED, MIXED_START, wish, name)

    def test_why(self):
        for wish in ((), (("a", "least", 5),)):
            with self.assertRaises(NoReason):
                why(MIXED, MIXED_START, wish)
        paper = why(MIXED, MIXED_START, (("a", "least", 9),))
        self.assertEqual(paper, ("clash", [(("a", "least", 9), None), (("b", "least", 6), 0)]))
        paper = why(MIXED, MIXED_START, (("c", "most", 1),))
        self.assertEqual(paper, ("pawl", [(("c", "most", 1), None)]))

    def test_twenty_sayings(self):
        wish = tuple((name, "least", 3) for name in NAMES) + tuple((name, "most", 8) for name in NAMES[:8])
        house = wide_house(("off", "a", "b", -1), ("off", "b", "c", -1), count=12)
        answer = nearest(house, tuple(range(12)), wish)
        self.assertEqual(answer[0], (3, 4, 5, 3, 4, 5, 6, 7, 8, 9, 10, 11))
        self.assertEqual(answer[1:], (3 + 3 + 3, 1))
        self.assertEqual(names_of(house), list(NAMES))

    def test_spread_of_a_wide_house(self):
        with self.assertRaises(TooWide):
            spread(wide_house(), (0, 0), 1)
        self.assertEqual(nearest(wide_house(), (0, 0), (("a", "least", 2000),)), ((2000, 0), 2000, 1))


if __name__ == "__main__":
    unittest.main()
