"""[5] names, dials, sayings, rules, houses."""

import unittest

from samples import FAR, GREAT, MIXED, NAMES, dial, frozen, house_of, odd_things

from pawldials.houses import fault_of, is_house

TWO = (dial("a"), dial("b"))


def many_rules(count):
    return [("off", "a", "b", c) for c in range(count)]


class FormCase(unittest.TestCase):
    def check(self, thing, fault):
        self.assertEqual(fault_of(thing), fault)
        self.assertIs(is_house(thing), fault is None)
        if fault is not None:
            self.assertIsInstance(fault_of(thing), tuple)

    def check_dial(self, row, good):
        with self.subTest(dial=row):
            self.check(((row,), ()), None if good else ("dial", 0))

    def check_rule(self, rule, good):
        with self.subTest(rule=rule):
            self.check((TWO, (rule,)), None if good else ("rule", 0))


class Houses(FormCase):
    def test_an_ordinary_house(self):
        self.check(MIXED, None)

    def test_counts_of_dials(self):
        for count in (1, 2, 11, 12):
            self.check(house_of([dial(name) for name in NAMES[:count]]), None)
        self.check(((), ()), ("house",))
        self.check(house_of([dial(name) for name in NAMES + "m"]), ("house",))

    def test_counts_of_rules(self):
        for count in (0, 1, 39, 40):
            self.check(house_of(TWO, *many_rules(count)), None)
        self.check(house_of(TWO, *many_rules(41)), ("house",))

    def test_what_is_no_tuple_of_two_tuples(self):
        for thing in [*odd_things(), TWO, (TWO,), (TWO, (), ()), [TWO, ()], (list(TWO), ()), (TWO, []),
                      (TWO, None), (None, ()), {"a": TWO}, (TWO, {}), ("ab", ()), (TWO, "")]:
            before = frozen(thing)
            if not isinstance(thing, tuple) or len(thing) != 2 or not isinstance(thing[0], tuple) or not thing[0]:
                self.check(thing, ("house",))
            else:
                self.assertIs(is_house(thing), False)
            self.assertEqual(frozen(thing), before)

    def test_the_first_fault_of_several(self):
        bad = ("off", "a", "a", 0)
        self.check((TWO + (None,) * 11, ()), ("house",))
        self.check(((None,), (None,) * 41), ("house",))
        self.check(((None, TWO[1]), (bad,)), ("dial", 0))
        self.check(((TWO[0], None, None), (bad,)), ("dial", 1))
        self.check(((TWO[1], TWO[0], None), ()), ("dial", 1))
        self.check((TWO, (many_rules(1)[0], bad, None)), ("rule", 1))
        self.check((TWO, (*many_rules(2), many_rules(1)[0], bad)), ("rule", 2))
        self.check((TWO, (*many_rules(2), bad, many_rules(1)[0])), ("rule", 2))


class Dials(FormCase):
    def test_names(self):
        for name in ("a", "z", "az", "abcdefgh", "zzzzzzzz"):
            self.check_dial(dial(name), True)
        for name in ("", "abcdefghi", "A", "aB", "a1", "1", "a b", " a", "a ", "a-b", "a_b", "`", "{", "a\n",
                     None, True, 1, ("a",), ["a"], {"a": 1}):
            self.check_dial(dial(name), False)

    def test_spans(self):
        for low, high in ((-FAR, FAR), (-FAR, -FAR), (FAR, FAR), (0, 0), (-3, -2)):
            self.check_dial(dial("a", low, high), True)
        for low, high in ((-FAR - 1, 0), (0, FAR + 1), (FAR + 1, FAR + 1), (-FAR - 1, -FAR - 1), (1, 0),
                          (FAR, FAR - 1), (False, 1), (0, True), (False, True), (None, 1), (0, None), ("0", 1),
                          (0, "1"), ((0,), 1), (0, [1]), ({}, 1), (10 ** 59, 10 ** 59)):
            self.check_dial(dial("a", low, high), False)

    def test_ways(self):
        for way in ("both", "up", "down"):
            self.check_dial(dial("a", way=way), True)
        for way in ("", "Up", "left", "bothup", "u", None, True, 0, ("up",), ["up"], {"up": 1}):
            self.check_dial(dial("a", way=way), False)

    def test_prices(self):
        for price in (1, 2, 1000000):
            self.check_dial(dial("a", up=price), True)
            self.check_dial(dial("a", down=price), True)
        for price in (0, -1, 1000001, True, None, "1", (1,), [1], 10 ** 59):
            self.check_dial(dial("a", up=price), False)
            self.check_dial(dial("a", down=price), False)

    def test_forms(self):
        for thing in [*odd_things(), list(dial("a")), dial("a")[:5], dial("a") + (1,), (dial("a"),)]:
            self.check_dial(thing, False)

    def test_names_rise_and_no_two_are_alike(self):
        self.check(house_of([dial("a"), dial("ab"), dial("b")]), None)
        self.check(house_of([dial("ab"), dial("a")]), ("dial", 1))
        self.check(house_of([dial("a"), dial("c"), dial("b")]), ("dial", 2))
        self.check(house_of([dial("a"), dial("a", 1, 2)]), ("dial", 1))
        self.check(house_of([dial("a"), dial("b"), dial("b")]), ("dial", 2))


class Rules(FormCase):
    def test_rules_of_two_dials(self):
        for word in ("off", "most", "least"):
            for c in (0, 1, -1, GREAT, -GREAT):
                self.check_rule((word, "a", "b", c), True)
                self.check_rule((word, "b", "a", c), True)
            for c in (GREAT + 1, -GREAT - 1, True, False, None, "0", (0,), [0], {}):
                self.check_rule((word, "a", "b", c), False)
            for name in ("c", "", "A", "aa", None, True, 0, ("b",), ["b"], {"b": 1}):
                self.check_rule((word, "a", name, 0), False)
                self.check_rule((word, name, "b", 0), False)
            self.check_rule((word, "a", "a", 0), False)

    def test_either_or(self):
        first, second = ("a", "least", 3), ("b", "most", 2)
        for rule in (("one", first, second), ("one", second, first), ("one", first, first),
                     ("one", ("a", "least", 3), ("a", "most", 3))):
            self.check_rule(rule, True)
        for saying in (("a", "least", GREAT), ("a", "least", -GREAT), ("b", "most", GREAT), ("b", "most", -GREAT)):
            self.check_rule(("one", saying, second), True)
            self.check_rule(("one", first, saying), True)
        for saying in (*odd_things()[:13], ("a", "least", GREAT + 1), ("a", "most", -GREAT - 1), ("c", "least", 1),
                       ("a", "off", 1), ("a", "", 1), ("a", None, 1), ("a", "least", True), ("a", "least", "1"),
                       ("a", "least", None), ("a", "least"), ("a", "least", 1, 1), ["a", "least", 1],
                       (["a"], "least", 1), ("a", ["least"], 1), ("a", "least", [1]), ({}, "least", 1)):
            self.check_rule(("one", saying, second), False)
            self.check_rule(("one", first, saying), False)

    def test_forms(self):
        first = ("a", "least", 3)
        for thing in odd_things():
            if thing != ("off", "a", "b", 0):
                self.check_rule(thing, False)
        for thing in (["off", "a", "b", 0], ["one", first, first], ("off", "a", "b"), ("off", "a", "b", 0, 0),
                      ("one", first), ("one", first, first, first), ("one", "a", "b", 0), ("off", first, first),
                      ("both", "a", "b", 0), (None, "a", "b", 0), (["off"], "a", "b", 0), ({}, first, first),
                      ("most", first, first), ("", "a", "b", 0), ("one", first, first, 0)):
            self.check_rule(thing, False)

    def test_a_rule_stands_once(self):
        same = [("off", "a", "b", 1), ("most", "a", "b", 1), ("one", ("a", "least", 1), ("b", "least", 1))]
        for rule in same:
            self.check(house_of(TWO, rule, rule), ("rule", 1))
            self.check(house_of(TWO, rule, ("off", "b", "a", 0), rule), ("rule", 2))
        self.check(house_of(TWO, ("most", "a", "b", 1), ("most", "b", "a", 1)), None)
        self.check(house_of(TWO, ("one", ("a", "least", 1), ("b", "least", 1)),
                            ("one", ("b", "least", 1), ("a", "least", 1))), None)
        self.check(house_of(TWO, ("off", "a", "b", 1), ("off", "a", "b", 2), ("off", "b", "a", 1)), None)
        self.check(house_of(TWO, ("off", "a", "b", 1), ("off", "a", "b", True)), ("rule", 1))

    def test_rules_stand_in_any_order(self):
        self.check(house_of(TWO, ("one", ("b", "most", 1), ("a", "most", 1)), ("most", "b", "a", 4),
                            ("least", "a", "b", -4), ("off", "b", "a", 4)), None)


if __name__ == "__main__":
    unittest.main()
