"""[10] any standing, what bars all, and spans."""

import random
import unittest

from plainly import Small, bound_house, bound_rules, names_of, otherwise, plain_bars_all, some_wish
from samples import (FAR, GREAT, MIXED, MIXED_START, NAMES, dial, frozen, house_of, odd_things, plain_standings,
                     random_house, random_rule, wide_house)

from pawldials.chains import is_chain
from pawldials.errors import NoHouse, NoWish
from pawldials.finding import bars_all, some_standing, spans
from pawldials.houses import is_standing, meets

# No number fits: each of two either-ors bars what the other one leaves.
CROSS = house_of([dial("a"), dial("b")], ("one", ("a", "least", 5), ("b", "least", 5)),
                 ("one", ("a", "least", 5), ("b", "most", 4)), ("one", ("a", "most", 4), ("b", "least", 5)),
                 ("one", ("a", "most", 4), ("b", "most", 4)))


def crowded_house(pick):
    """A small house with many rules, mostly without a standing."""
    dials, rules = random_house(pick)
    rules = list(rules)
    for _ in range(6):
        rule = random_rule(pick, [row[0] for row in dials])
        if rule not in rules:
            rules.append(rule)
    return (dials, tuple(rules))


class SomeStanding(unittest.TestCase):
    def check(self, house):
        """Either a standing is told, or what the looker lets by."""
        told = some_standing(house)
        self.assertIs(type(told), tuple)
        if told[0] == "standing":
            self.assertEqual(len(told), 2)
            self.assertIs(is_standing(house, told[1]), True)
            self.assertIs(bars_all(house, told), False)
        else:
            self.assertIn((told[0], len(told)), [("circle", 2), ("chains", 3)])
            self.assertTrue(all(is_chain(house, chain) for chain in told[1:]))
            self.assertIs(bars_all(house, told), True)
        self.assertEqual(some_standing(house), told)
        return told[0]

    def test_small_houses(self):
        pick = random.Random(23)
        told = {}
        for k in range(900):
            house = crowded_house(pick) if k % 3 else random_house(pick)
            word = self.check(house)
            self.assertIs(word == "standing", bool(plain_standings(house)), house)
            told[word] = told.get(word, 0) + 1
        self.assertGreater(min(told.values()), 20)
        self.assertEqual(sorted(told), ["chains", "circle", "standing"])

    def test_either_ors_alone(self):
        self.assertEqual(self.check(CROSS), "chains")
        for k in range(4):
            self.assertEqual(self.check((CROSS[0], CROSS[1][:k] + CROSS[1][k + 1:])), "standing")
        wide = house_of([dial("a", -FAR, FAR), dial("b", -FAR, FAR)], *CROSS[1])
        self.assertEqual(self.check(wide), "chains")

    def test_a_single_rule(self):
        for rule in (("off", "a", "b", -10), ("most", "a", "b", -1), ("least", "a", "b", 19),
                     ("one", ("a", "least", 10), ("b", "most", -1)), ("off", "a", "b", -GREAT),
                     ("most", "a", "b", -GREAT), ("least", "a", "b", GREAT),
                     ("one", ("a", "least", GREAT), ("a", "most", -GREAT))):
            self.assertEqual(self.check(house_of([dial("a"), dial("b")], rule)), "chains")
        for rule in (("off", "a", "b", -9), ("most", "a", "b", 0), ("least", "a", "b", 18), ("off", "a", "b", GREAT),
                     ("one", ("a", "least", 9), ("b", "most", -1)), ("most", "a", "b", GREAT),
                     ("least", "a", "b", -GREAT)):
            self.assertEqual(self.check(house_of([dial("a"), dial("b")], rule)), "standing")

    def test_circles(self):
        # Each time around says one more: 10 ** 18 times are not gone.
        self.assertEqual(self.check(wide_house(("off", "a", "b", 0), ("off", "b", "a", -1))), "circle")
        self.assertEqual(self.check(wide_house(("most", "a", "b", 0), ("least", "a", "b", 1))), "circle")
        self.assertEqual(self.check(wide_house(("off", "a", "b", 0), ("off", "b", "a", 0))), "standing")
        rules = [("off", NAMES[k], NAMES[k + 1], (-1) ** k * FAR) for k in range(11)]
        self.assertEqual(self.check(wide_house(*rules, ("off", "l", "a", -FAR - 1), count=12)), "circle")
        self.assertEqual(self.check(wide_house(*rules, ("off", "l", "a", -FAR), count=12)), "standing")

    def test_circles_with_great_numbers(self):
        rules = [("off", NAMES[k], NAMES[k + 1], -2 * FAR if k < 6 else 2 * FAR) for k in range(11)]
        self.check(wide_house(*rules, ("off", "l", "a", 2 * FAR - 1), count=12))
        rules = [("off", NAMES[k], NAMES[k + 1], -GREAT if k < 6 else GREAT) for k in range(11)]
        self.check(wide_house(*rules, ("off", "l", "a", GREAT - 1), count=12))
        for c in (FAR // 2, FAR // 3):
            rules = [("off", NAMES[k], NAMES[k + 1], -c if k % 4 < 2 else c) for k in range(11)]
            self.assertEqual(self.check(wide_house(*rules, ("off", "l", "a", c - 1), count=12)), "circle")

    def test_halves(self):
        # a and b together are as much as their difference: 2 * a is 1.
        rules = (("most", "a", "b", 1), ("least", "a", "b", 1), ("off", "a", "b", 0), ("off", "b", "a", 0))
        self.assertEqual(self.check(wide_house(*rules)), "chains")
        even = (("most", "a", "b", 2), ("least", "a", "b", 2), ("off", "a", "b", 0), ("off", "b", "a", 0))
        self.assertEqual(some_standing(wide_house(*even)), ("standing", (1, 1)))

    def test_wide_spans(self):
        gaps = [("one", (name, "most", -1), (name, "least", 1)) for name in NAMES]
        rules = [("off", NAMES[k], NAMES[k + 1], -1) for k in range(11)]
        house = wide_house(*gaps, *rules, ("least", "a", "b", 2 * FAR - 30), count=12)
        self.assertEqual(self.check(house), "standing")
        house = wide_house(*gaps, *rules, ("least", "a", "b", 2 * FAR - 15), count=12)
        self.assertEqual(self.check(house), "chains")
        # b, c to l stand above a, one each; nothing fits where a is the greatest.
        house = wide_house(*rules, ("one", ("a", "least", FAR - 10), ("a", "least", FAR)), count=12)
        self.assertEqual(self.check(house), "chains")

    def test_long_chains(self):
        # From a to l by eleven offs, from l by an either-or back to a, twenty-nine times: then nothing fits.
        rules = [("off", NAMES[k], NAMES[k + 1], 0) for k in range(11)]
        rules += [("one", ("l", "most", max(0, 10 * k - 1)), ("a", "least", 10 * k + 10)) for k in range(29)]
        house = house_of([dial(name, 0, 289) for name in NAMES], *rules)
        self.assertEqual(some_standing(house), ("standing", (0,) * 12))
        self.assertEqual(spans(house, ()), {name: (0, 0) for name in NAMES})
        house = house_of([dial(name, 1, 289) for name in NAMES], *rules)
        self.assertEqual(self.check(house), "chains")
        self.assertGreater(max(len(chain) for chain in some_standing(house)[1:]), 300)

    def test_great_random_houses(self):
        pick = random.Random(29)
        for _ in range(60):
            dials = [dial(name, -pick.randint(0, FAR), pick.randint(0, FAR)) for name in NAMES]
            rules = []
            while len(rules) < 40:
                a, b = pick.sample(NAMES, 2)
                c = pick.choice([1, 10 ** 9, FAR, GREAT]) * pick.randint(-3, 5)
                word = pick.choice(["off", "most", "least", "one", "one"])
                rule = (word, a, b, max(-GREAT, min(GREAT, c)))
                if word == "one":
                    i, k = pick.randint(-FAR, FAR), pick.randint(-FAR, FAR)
                    rule = ("one", (a, pick.choice(["least", "most"]), i), (b, pick.choice(["least", "most"]), k))
                if rule not in rules:
                    rules.append(rule)
            for count in (5, 12, 40):
                self.check(house_of(dials, *rules[:count]))

    def test_no_house(self):
        for thing in odd_things():
            for call in (lambda: some_standing(thing), lambda: bars_all(thing, None), lambda: spans(thing, None)):
                with self.assertRaises(NoHouse):
                    call()
        with self.assertRaises(NoHouse) as caught:
            some_standing((MIXED[0][::-1], ()))
        self.assertEqual(caught.exception.fault, ("dial", 1))


class BarsAll(unittest.TestCase):
    def test_the_same_with_one_thing_otherwise(self):
        pick = random.Random(31)
        told = {True: 0, False: 0}
        seen = 0
        while seen < 60:
            house = crowded_house(pick)
            paper = some_standing(house)
            if paper[0] == "standing" or len(repr(paper)) > 400:
                continue
            seen += 1
            for thing in otherwise(paper):
                good = plain_bars_all(house, thing)
                told[good] += 1
                self.assertIs(bars_all(house, thing), good, (house, thing))
        self.assertGreater(min(told.values()), 300)

    def test_circles_with_one_thing_otherwise(self):
        pick = random.Random(33)
        told = {True: 0, False: 0}
        for _ in range(40):
            names = NAMES[:pick.randint(2, 4)]
            sums = [pick.randint(-2, 2) for _ in names]
            sums[0] -= sum(sums) + pick.randint(1, 2)
            rules = [("off", name, (names[1:] + names[:1])[k], sums[k]) for k, name in enumerate(names)]
            rules.append(("one", ("a", "most", 2), ("b", "least", 1)))
            house = house_of([dial(name, -8, 8) for name in names], *rules)
            paper = some_standing(house)
            self.assertEqual(paper[0], "circle")
            for thing in [paper, *otherwise(paper)]:
                good = plain_bars_all(house, thing)
                told[good] += 1
                self.assertIs(bars_all(house, thing), good, (house, thing))
        self.assertGreater(min(told.values()), 100)

    def test_circles_end_where_they_begin(self):
        # Once around says just as much; only of another dial, or of the other sort, a number is greater.
        house = house_of([dial("a"), dial("b"), dial("c")], ("off", "a", "b", -3), ("off", "b", "a", 3),
                         ("most", "a", "c", 9), ("least", "a", "c", 9), ("off", "c", "b", 4))
        for chain in ([(("a", "least", 1), None), (("b", "least", 4), 0)],
                      [(("a", "least", 1), None), (("b", "least", 4), 0), (("a", "least", 1), 1)],
                      [(("a", "most", 5), None), (("b", "most", 8), 1), (("a", "most", 5), 0)],
                      [(("b", "most", 8), None), (("a", "most", 5), 0)],
                      [(("a", "least", 1), None), (("c", "most", 8), 2)],
                      [(("a", "most", 5), None), (("c", "least", 4), 3), (("b", "least", 0), 4)]):
            self.assertIs(is_chain(house, chain), True)
            self.assertIs(bars_all(house, ("circle", chain)), False)
        around = [(("a", "least", 0), None), (("b", "least", 0), 0), (("a", "least", 1), 1)]
        house = house_of([dial("a"), dial("b")], ("off", "a", "b", 0), ("off", "b", "a", -1))
        for word, good in (("circle", True), ("chains", False), ("", False), (None, False), (["circle"], False)):
            self.assertIs(bars_all(house, (word, around)), good)

    def test_nothing_bars_what_has_standings(self):
        pick = random.Random(37)
        for _ in range(60):
            house = bound_house(pick)
            other = crowded_house(pick)
            other = (house[0], tuple(rule for rule in other[1] if set(names_in(rule)) <= set(names_of(house))))
            paper = some_standing(other)
            for thing in [paper, *otherwise(paper)]:
                self.assertIs(bars_all(house, thing), False)

    def test_by_hand(self):
        house = house_of([dial("a", 0, 5), dial("b", 0, 5)], ("off", "a", "b", 0), ("off", "b", "a", -1),
                         ("one", ("a", "most", 2), ("a", "most", 2)))
        around = [(("a", "least", 0), None), (("b", "least", 0), 0), (("a", "least", 1), 1)]
        self.assertIs(bars_all(house, ("circle", around)), True)
        self.assertIs(bars_all(house, ("circle", around[:2])), False)
        self.assertIs(bars_all(house, ("circle", around[:1])), False)
        weaker = [*around[:2], (("a", "least", 0), 1)]
        self.assertIs(bars_all(house, ("circle", weaker)), False)
        self.assertIs(bars_all(house, ("circle", [*around, (("a", "least", 1), -1)])), True)
        down = [(("b", "most", 4), None), (("a", "most", 4), 0), (("b", "most", 3), 1)]
        self.assertIs(bars_all(house, ("circle", down)), True)
        # An either-or says more, too, and is no rule of a circle.
        leap = house_of([dial("a", 0, 5)], ("one", ("a", "most", 2), ("a", "least", 4)))
        chain = [(("a", "least", 3), None), (("a", "least", 4), 0)]
        self.assertIs(is_chain(leap, chain), True)
        self.assertIs(bars_all(leap, ("circle", chain)), False)

    def test_opposites(self):
        # Without rules: a saying that no number fits refutes itself, its opposite never does.
        house = house_of([dial("a", 0, 5), dial("b", 0, 5)], ("one", ("b", "least", 6), ("b", "most", -1)))
        lost = [(("a", "least", 6), None)]
        self.assertIs(bars_all(house, ("chains", lost, lost)), False)
        everywhere = [(("a", "least", 0), None)]
        self.assertIs(bars_all(house, ("chains", lost, everywhere)), False)
        first = [(("b", "least", 0), None), (("b", "most", -1), 0)]
        for start, good in ((("b", "most", -1), True), (("b", "least", 6), True), (("b", "most", -GREAT), True),
                            (("b", "most", 0), False), (("a", "most", -1), False), (("b", "least", 5), False)):
            with self.subTest(start=start):
                self.assertIs(bars_all(house, ("chains", first, [(start, None)])), good)
                self.assertIs(bars_all(house, ("chains", [(start, None)], first)), good)

    def test_of_anything(self):
        for house in (MIXED, CROSS):
            for thing in [*odd_things(), ("circle",), ("chains", [], []), ("circle", []), ("circle", None, None),
                          ("chains", None), ("standing", MIXED_START), ("circle", [((), None)]), ["circle", []]]:
                self.assertIs(bars_all(house, thing), False)
        paper = some_standing(CROSS)
        self.assertIs(bars_all(CROSS, list(paper)), False)
        self.assertIs(bars_all(CROSS, (paper[0], tuple(paper[1]), paper[2])), False)
        self.assertIs(bars_all(CROSS, (paper[0], paper[1], paper[1])), False)
        self.assertIs(bars_all(CROSS, (paper[0], paper[2], paper[1])), True)
        self.assertIs(bars_all(CROSS, (*paper, [])), False)
        self.assertIs(bars_all(CROSS, (paper[0], paper[1] * 3000, paper[2])), False)


def names_in(rule):
    return [rule[1][0], rule[2][0]] if rule[0] == "one" else [rule[1], rule[2]]


class Spans(unittest.TestCase):
    def test_small_houses(self):
        pick = random.Random(41)
        told = {True: 0, False: 0}
        for k in range(700):
            house = bound_house(pick) if k % 3 else random_house(pick)
            small = Small(house)
            wish = some_wish(pick, small, pick.choice(small.standings)) if small.standings else ()
            good = [numbers for numbers in small.standings if small.meets(numbers, wish)]
            rows = {name: (min(row), max(row)) for name, row in zip(small.names, zip(*good))} if good else None
            with self.subTest(house=house, wish=wish):
                self.assertEqual(spans(house, wish), rows)
            told[bool(good)] += 1
        self.assertGreater(min(told.values()), 100)

    def test_wishes_that_some_all_and_none_meet(self):
        whole = spans(MIXED, ())
        self.assertEqual(whole, {"a": (0, 8), "b": (-3, 5), "c": (0, 9), "d": (-9, 9)})
        self.assertEqual(spans(MIXED, (("a", "most", GREAT), ("a", "least", -GREAT))), whole)
        self.assertEqual(spans(MIXED, (("a", "least", 8),)), {"a": (8, 8), "b": (5, 5), "c": (0, 2), "d": (-9, 9)})
        for wish in ((("a", "least", 9),), (("a", "least", 10),), (("a", "most", -1),), (("a", "least", GREAT),),
                     (("a", "least", 5), ("b", "most", 1)), (("a", "least", 5), ("a", "most", 4))):
            self.assertIsNone(spans(MIXED, wish))
        self.assertEqual(list(whole), ["a", "b", "c", "d"])

    def test_wide(self):
        house = wide_house(("off", "a", "b", -7), ("one", ("b", "most", 5), ("a", "least", FAR - 9)))
        self.assertEqual(spans(house, ()), {"a": (-FAR, FAR - 7), "b": (7 - FAR, FAR)})
        self.assertEqual(spans(house, (("b", "least", 6),)), {"a": (FAR - 9, FAR - 7), "b": (FAR - 2, FAR)})
        self.assertEqual(spans(house, (("a", "most", FAR - 10),)), {"a": (-FAR, -2), "b": (7 - FAR, 5)})
        halves = wide_house(("most", "a", "b", 1), ("off", "a", "b", 0), ("off", "b", "a", 0))
        self.assertEqual(spans(halves, ()), {"a": (-FAR, 0), "b": (-FAR, 0)})
        self.assertEqual(spans(wide_house(count=12), ()), {name: (-FAR, FAR) for name in NAMES})

    def test_a_house_without_standings(self):
        for house in (CROSS, wide_house(("off", "a", "b", 0), ("off", "b", "a", -1)),
                      wide_house(("off", "a", "b", -GREAT)),
                      wide_house(("most", "a", "b", 1), ("least", "a", "b", 1), ("off", "a", "b", 0),
                                 ("off", "b", "a", 0))):
            self.assertIsNone(spans(house, ()))

    def test_found_ends_are_standings(self):
        pick = random.Random(43)
        for _ in range(12):
            dials = [dial(name, -FAR, FAR) for name in NAMES]
            rules = []
            for _ in range(14):
                rules.extend(rule for rule in bound_rules(pick, dials) if rule not in rules)
            house = house_of(dials, *rules[:40])
            told = spans(house, ())
            self.assertIs(told is None, some_standing(house)[0] != "standing")
            for name, (least, greatest) in (told or {}).items():
                self.assertIsNotNone(spans(house, ((name, "most", least),)))
                self.assertIsNone(spans(house, ((name, "most", least - 1),)))
                self.assertIsNotNone(spans(house, ((name, "least", greatest),)))
                self.assertIsNone(spans(house, ((name, "least", greatest + 1),)))

    def test_refusals(self):
        for wish in [*odd_things(), [("a", "least", 1)], (("e", "least", 1),), (("a", "least", True),),
                     (("a", "least", GREAT + 1),), (("a", "least", 1),) * 21]:
            if wish != ():
                with self.subTest(wish=repr(wish)[:60]), self.assertRaises(NoWish):
                    spans(MIXED, wish)
        self.assertIsNotNone(spans(MIXED, (("a", "least", 1),) * 20))
        with self.assertRaises(NoHouse):
            spans((MIXED[0], [None]), None)
        with self.assertRaises(NoWish):
            spans(CROSS, None)


class Own(unittest.TestCase):
    def test_nothing_is_changed_and_all_is_new(self):
        before = frozen((MIXED, CROSS))
        told = spans(MIXED, ())
        again = frozen(told)
        told["a"] = None
        told.clear()
        self.assertEqual(frozen(spans(MIXED, ())), again)
        paper = some_standing(CROSS)
        again = frozen(paper)
        paper[1].clear()
        paper[2].append(None)
        self.assertEqual(frozen(some_standing(CROSS)), again)
        paper = some_standing(CROSS)
        self.assertIs(bars_all(CROSS, paper), True)
        self.assertEqual(frozen(paper), again)
        self.assertEqual(frozen((MIXED, CROSS)), before)

    def test_standings_meet_the_empty_wish(self):
        self.assertIs(meets(MIXED, some_standing(MIXED)[1], ()), True)


if __name__ == "__main__":
    unittest.main()
