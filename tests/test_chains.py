"""[9] denials, what is given, and chains."""

import random
import unittest

from plainly import bound_house, otherwise, plain_chain, plain_given
from samples import FAR, GREAT, MIXED, dial, frozen, house_of, odd_things, random_house, wide_house

from pawldials.chains import is_chain
from pawldials.errors import NoHouse

DIALS = [dial("a"), dial("b"), dial("c")]
LONG = 2000


def by_rule(rule, first, second):
    """Whether the second saying may stand behind the first by this rule alone."""
    return is_chain(house_of(DIALS, rule), [(first, None), (second, 0)])


class Rules(unittest.TestCase):
    def check(self, rule, first, told):
        """Just the saying told, and weaker ones, stand behind the first."""
        name, sort, i = told
        more = 1 if sort == "least" else -1
        for second, good in ((told, True), ((name, sort, i - more), True), ((name, sort, i - 50 * more), True),
                             ((name, sort, i + more), False)):
            with self.subTest(rule=rule, first=first, second=second):
                self.assertIs(by_rule(rule, first, second), good)
        other = "most" if sort == "least" else "least"
        for second in [(name, other, k) for k in range(-30, 31)]:
            self.assertIs(by_rule(rule, first, second), False)
        for name in "abc":
            if name != told[0]:
                for word in ("least", "most"):
                    self.assertIs(by_rule(rule, first, (name, word, i)), False)

    def check_nothing(self, rule, *sayings):
        for first in sayings:
            for name in "abc":
                for sort in ("least", "most"):
                    for i in (-9, 0, 3, 12):
                        with self.subTest(rule=rule, first=first, second=(name, sort, i)):
                            self.assertIs(by_rule(rule, first, (name, sort, i)), False)

    def test_off(self):
        rule = ("off", "a", "b", 2)
        self.check(rule, ("a", "least", 5), ("b", "least", 3))
        self.check(rule, ("b", "most", 5), ("a", "most", 7))
        self.check(("off", "a", "b", -2), ("a", "least", 5), ("b", "least", 7))
        self.check_nothing(rule, ("a", "most", 5), ("b", "least", 5), ("c", "least", 5), ("c", "most", 5))

    def test_most(self):
        rule = ("most", "a", "b", 7)
        self.check(rule, ("a", "least", 5), ("b", "most", 2))
        self.check(rule, ("b", "least", 4), ("a", "most", 3))
        self.check_nothing(rule, ("a", "most", 5), ("b", "most", 5), ("c", "least", 5), ("c", "most", 5))

    def test_least(self):
        rule = ("least", "a", "b", 7)
        self.check(rule, ("a", "most", 5), ("b", "least", 2))
        self.check(rule, ("b", "most", 4), ("a", "least", 3))
        self.check_nothing(rule, ("a", "least", 5), ("b", "least", 5), ("c", "least", 5), ("c", "most", 5))

    def test_one(self):
        rule = ("one", ("a", "most", 3), ("b", "least", 5))
        self.check(rule, ("a", "least", 4), ("b", "least", 5))
        self.check(rule, ("a", "least", 9), ("b", "least", 5))
        self.check(rule, ("b", "most", 4), ("a", "most", 3))
        self.check(rule, ("b", "most", 0), ("a", "most", 3))
        self.check_nothing(rule, ("a", "least", 3), ("b", "most", 5), ("a", "most", 4), ("b", "least", 4),
                           ("c", "least", 9))
        self.check(("one", ("a", "most", 3), ("a", "most", 3)), ("a", "least", 4), ("a", "most", 3))
        self.check(("one", ("a", "most", 3), ("a", "least", 7)), ("a", "least", 4), ("a", "least", 7))
        self.check(("one", ("a", "most", 3), ("a", "least", 7)), ("a", "most", 6), ("a", "most", 3))

    def test_one_by_what_no_number_fits(self):
        rule = ("one", ("a", "most", 3), ("b", "least", 5))
        for first in (("c", "least", 10), ("c", "most", -1), ("a", "most", -1), ("b", "least", 10), ("a", "least", 10),
                      ("c", "least", GREAT)):
            with self.subTest(first=first):
                self.assertIs(by_rule(rule, first, ("a", "most", 3)), True)
                self.assertIs(by_rule(rule, first, ("b", "least", 5)), True)
                self.assertIs(by_rule(rule, first, ("a", "most", 2)), False)
        for first in (("c", "least", 9), ("c", "most", 0)):
            self.assertIs(by_rule(rule, first, ("a", "most", 3)), False)

    def test_one_of_what_no_number_fits(self):
        # Every saying of its dial denies it, also one that holds everywhere; those of other dials don't.
        rule = ("one", ("a", "least", 10), ("b", "least", 5))
        for first in (("a", "least", 9), ("a", "most", 0), ("a", "least", -GREAT), ("a", "most", GREAT)):
            self.assertIs(by_rule(rule, first, ("b", "least", 5)), True)
        for first in (("c", "least", 9), ("b", "least", 3)):
            self.assertIs(by_rule(rule, first, ("b", "least", 5)), False)
        self.assertIs(by_rule(rule, ("b", "most", 4), ("a", "least", 10)), True)

    def test_rules_but_one_give_nothing_more_of_what_no_number_fits(self):
        self.assertIs(by_rule(("off", "a", "b", 0), ("c", "least", 10), ("b", "least", 0)), False)
        self.assertIs(by_rule(("off", "a", "b", 0), ("a", "least", 10), ("b", "least", 11)), False)

    def test_by_itself(self):
        house = house_of(DIALS)
        for first, second, good in [(("a", "least", 5), ("a", "least", 5), True), (("a", "least", 5), ("a", "least", 4), True),
                                    (("a", "least", 5), ("a", "least", 6), False), (("a", "most", 5), ("a", "most", 6), True),
                                    (("a", "most", 5), ("a", "most", 4), False), (("a", "least", 5), ("b", "least", 5), False),
                                    (("a", "least", 9), ("a", "most", 9), False), (("a", "least", 0), ("a", "most", 9), False),
                                    (("a", "least", 5), ("a", "least", -GREAT), True),
                                    (("a", "least", 10), ("a", "least", 11), False),
                                    (("a", "least", 10), ("a", "most", 0), False),
                                    (("a", "least", 10), ("b", "most", 0), False)]:
            with self.subTest(first=first, second=second):
                self.assertIs(is_chain(house, [(first, None), (second, -1)]), good)

    def test_a_rule_gives_no_saying_by_another_number(self):
        house = house_of(DIALS, ("off", "a", "b", 0), ("off", "a", "c", 0))
        for name, by, good in (("b", 0, True), ("c", 1, True), ("b", 1, False), ("c", 0, False), ("b", -1, False)):
            self.assertIs(is_chain(house, [(("a", "least", 5), None), ((name, "least", 5), by)]), good)


class Numbers(unittest.TestCase):
    def test_numbers_beyond_what_a_saying_has(self):
        house = wide_house(("off", "a", "b", -GREAT), ("least", "a", "b", GREAT), ("most", "a", "b", -GREAT))
        first = (("a", "least", GREAT), None)
        # What the rule gives is 2 * 10 ** 20: it gives what can be said, and can't be said itself.
        self.assertIs(is_chain(house, [first, (("b", "least", GREAT), 0)]), True)
        self.assertIs(is_chain(house, [first, (("b", "least", GREAT + 1), 0)]), False)
        self.assertIs(is_chain(house, [first, (("b", "least", 2 * GREAT), 0)]), False)
        self.assertIs(is_chain(house, [(("a", "most", -GREAT), None), (("b", "least", GREAT), 1)]), True)
        self.assertIs(is_chain(house, [(("a", "least", GREAT), None), (("b", "most", -GREAT), 2)]), True)
        self.assertIs(is_chain(house, [(("a", "least", 1), None), (("b", "least", GREAT), 0)]), True)
        self.assertIs(is_chain(house, [(("a", "least", 0), None), (("b", "least", GREAT), 0)]), True)
        self.assertIs(is_chain(house, [(("a", "least", -1), None), (("b", "least", GREAT), 0)]), False)

    def test_numbers_below_what_a_saying_has(self):
        house = wide_house(("off", "a", "b", GREAT))
        for i in (-GREAT, -1):
            for told in (-GREAT, -GREAT + i):
                self.assertIs(is_chain(house, [(("a", "least", i), None), (("b", "least", told), 0)]), False)
        self.assertIs(is_chain(house, [(("a", "least", 0), None), (("b", "least", -GREAT), 0)]), True)

    def test_first_sayings(self):
        house = wide_house()
        for i, good in ((GREAT, True), (-GREAT, True), (GREAT + 1, False), (-GREAT - 1, False), (True, False),
                        (False, False), (None, False), ("1", False), ((1,), False)):
            self.assertIs(is_chain(house, [(("a", "least", i), None)]), good)


class Forms(unittest.TestCase):
    def test_lengths(self):
        house = wide_house(("off", "a", "b", -1), ("off", "b", "a", 0))
        links = [(("a", "least", 0), None)]
        while len(links) <= LONG:
            name, sort, i = links[-1][0]
            links.append((("b", sort, i + 1), 0) if name == "a" else (("a", sort, i), 1))
        self.assertIs(is_chain(house, []), False)
        self.assertIs(is_chain(house, links[:1]), True)
        self.assertIs(is_chain(house, links[:2]), True)
        self.assertIs(is_chain(house, links[:LONG]), True)
        self.assertIs(is_chain(house, links), False)
        self.assertEqual(len(links), LONG + 1)
        for k in (0, 1, 1000, LONG - 1):
            for wrong in (None, links[k][0], (("a", "least", -GREAT - 1), -1), (("a", "most", 0), 0)):
                self.assertIs(is_chain(house, [*links[:k], wrong, *links[k + 1:LONG]]), False)

    def test_what_is_none(self):
        house = house_of(DIALS, ("off", "a", "b", 0), ("off", "b", "c", 0))
        first, second = (("a", "least", 5), None), (("b", "least", 5), 0)
        good = [first, second, (("c", "least", 5), 1), (("c", "least", 4), -1)]
        self.assertIs(is_chain(house, good), True)
        wrong = [
            tuple(good), {0: first}, [list(first)], [first, list(second)], [(*first, None)], [first[:1]], first,
            [(("a", "least", 5), 0)], [(("a", "least", 5), -1)], [(("a", "least", 5), False)], [good],
            [first, (("b", "least", 5), None)], [first, (("b", "least", 5), 2)], [first, (("b", "least", 5), -2)],
            [first, (("b", "least", 5), False)], [first, (("b", "least", 5), "0")], [first, (("b", "least", 5), (0,))],
            [first, (("b", "least", True), 0)], [first, (("b", "least", None), 0)], [first, (("b", "least"), 0)],
            [first, (["b", "least", 5], 0)], [first, (("b", "least", 5, 0), 0)], [(["a", "least", 5], None)],
            [(("d", "least", 5), None)], [(("", "least", 5), None)], [(("a", "less", 5), None)], [(([], {}, 5), None)],
            [first, (("d", "least", 5), -1)], [first, (("b", "least", 5), 10 ** 59)], [(("a", ["least"], 5), None)],
            [(None, None)], [first, None], [None, second], [first, first], [second, first], "ab", [first, second, ()],
        ]
        for thing in [*odd_things(), *wrong]:
            with self.subTest(thing=repr(thing)[:80]):
                self.assertIs(is_chain(house, thing), False)

    def test_truths_are_no_numbers_of_rules(self):
        house = house_of(DIALS, ("off", "a", "b", 0), ("off", "a", "b", 1))
        for by, good in ((0, True), (1, False), (False, False), (True, False)):
            self.assertIs(is_chain(house, [(("a", "least", 5), None), (("b", "least", 5), by)]), good)
        self.assertIs(is_chain(house, [(("a", "least", 5), None), (("b", "least", 4), True)]), False)

    def test_no_house(self):
        for house in odd_things():
            with self.assertRaises(NoHouse):
                is_chain(house, [(("a", "least", 5), None)])
        with self.assertRaises(NoHouse) as caught:
            is_chain((MIXED[0], (MIXED[1][0], MIXED[1][0])), None)
        self.assertEqual(caught.exception.fault, ("rule", 1))

    def test_nothing_is_changed(self):
        chain = [(("a", "least", 5), None), (("b", "least", 2), 0)]
        before = frozen((MIXED, chain))
        self.assertIs(is_chain(MIXED, chain), True)
        self.assertIs(is_chain(MIXED, chain), True)
        self.assertEqual(frozen((MIXED, chain)), before)


class Beside(unittest.TestCase):
    def grown(self, pick, house):
        """A list that is mostly a chain."""
        names = [row[0] for row in house[0]]
        saying = (pick.choice(names), pick.choice(["least", "most"]), pick.randint(-4, 7))
        links = [(saying, None)]
        for _ in range(pick.randint(0, 6)):
            by = pick.randint(-1, len(house[1]) - 1)
            told = [saying] if by < 0 else plain_given(house, house[1][by], saying)
            if told:
                name, sort, i = pick.choice(told)
                saying = (name, sort, i + pick.choice([0, 0, 0, 1, -1]))
                links.append((saying, by))
        return links

    def test_by_the_words_of_the_document(self):
        pick = random.Random(17)
        told = {True: 0, False: 0}
        for k in range(1500):
            house = random_house(pick) if k % 2 else bound_house(pick)
            links = self.grown(pick, house)
            things = [links] + (list(otherwise(links)) if k % 25 == 0 else [])
            for thing in things:
                good = plain_chain(house, thing)
                told[good] += 1
                self.assertIs(is_chain(house, thing), good, (house, thing))
        self.assertGreater(min(told.values()), 500)

    def test_wide_spans(self):
        house = wide_house(("one", ("a", "most", FAR - 1), ("b", "least", FAR)))
        for i, good in ((FAR, True), (FAR - 1, False), (FAR + 1, True)):
            self.assertIs(is_chain(house, [(("a", "least", i), None), (("b", "least", FAR), 0)]), good)


if __name__ == "__main__":
    unittest.main()
