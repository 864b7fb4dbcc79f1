"""[25] houses and chains as texts; [2] and [3] with them."""

import random
import unittest

from plainly import bound_house, otherwise, small_cases
from samples import (FAR, GREAT, MIXED, MIXED_START, NAMES, deep, dial, frozen, house_of, odd_things, random_house,
                     wide_house)

from pawldials.chains import is_chain
from pawldials.errors import NoChain, NoHouse, NoText
from pawldials.nearest import nearest, reason
from pawldials.texts import read_chain, read_house, show_chain, show_house

MIXED_TEXT = """dial a 0 9 both 2 3
dial b -5 5 both 5 7
dial c 0 9 up 11 13
dial d -9 9 down 17 19
off a b 3
most a c 10
least b d -6
one c<=4 d<=0"""
SIXTY = "9" * 60
CHAIN = [(("a", "least", 5), None), (("b", "least", 2), 0), (("b", "least", -1), -1), (("abcdefgh", "most", GREAT), 39)]
CHAIN_TEXT = "a>=5 0 b>=2 = b>=-1 39 abcdefgh<=100000000000000000000"


class Texts(unittest.TestCase):
    def no_text(self, row, call, text):
        with self.subTest(text=repr(text)[-80:]), self.assertRaises(NoText) as caught:
            call(text)
        self.assertEqual(caught.exception.row, row)


class Houses(Texts):
    def test_written(self):
        self.assertEqual(show_house(MIXED), MIXED_TEXT)
        self.assertEqual(read_house(MIXED_TEXT), MIXED)
        self.assertEqual(show_house(house_of([dial("abcdefgh", -FAR, FAR, "down", 1, 10 ** 6)])),
                         f"dial abcdefgh -{FAR} {FAR} down 1 1000000")
        self.assertEqual(show_house(wide_house(("one", ("a", "least", -GREAT), ("a", "least", -GREAT)))).split("\n")[2],
                         f"one a>=-{GREAT} a>=-{GREAT}")
        self.assertEqual(show_house(house_of([dial("a", 0, 0)])), "dial a 0 0 both 1 1")

    def test_read_back(self):
        pick = random.Random(701)
        for k in range(300):
            house = random_house(pick) if k % 2 else bound_house(pick)
            text = show_house(house)
            self.assertEqual(read_house(text), house)
            self.assertEqual(show_house(read_house(text)), text)
        forty = wide_house(*[("off", "a", "b", GREAT - k) for k in range(40)], count=12)
        self.assertEqual(read_house(show_house(forty)), forty)

    def test_each_row_wrong(self):
        good = MIXED_TEXT.split("\n")
        for k, row in enumerate(good):
            words = row.split(" ")
            wrong = ["", " ", row + " ", " " + row, row.replace(" ", "  ", 1), row + " 1", " ".join(words[:-1]), row.upper(),
                     row.capitalize(), row + ";", row.replace(" ", "\t"), row.replace(" ", ","), words[0], "house", "#" + row, row + "\r",
                     " ".join(["x"] + words[1:]), " ".join(words[1:])]
            for at in range(1, len(words)):
                for word in ("", "-", "+1", "-0", "00", "01", "-01", "1.", "1e3", "0x1", "1_0", "one", "9" * 61, "-" + "9" * 61, "a<", "a<5",
                             "a=5", "a==5", "a>=", "<=5", "a<=>=5", "a>=5>=6", "a>=+5", "a>=05", "a<=-0", "a >=5", "A>=5", "abcdefghi>=5",
                             "a>=" + "9" * 61, "B", "abcdefghi", "a1", "upp", "Both", "none"):
                    name_asked = at == 1 and len(words) == 7 or at in (1, 2) and len(words) == 4
                    if not (name_asked and word in ("one", "upp", "none")):
                        wrong.append(" ".join([*words[:at], word, *words[at + 1:]]))
            for thing in wrong:
                self.no_text(k, read_house, "\n".join([*good[:k], thing, *good[k + 1:]]))

    def test_well_written_rows_that_make_no_house(self):
        for rows in (["dial a 0 9 both 1 1", "dial a 0 9 both 1 1"], ["dial b 0 9 both 1 1", "dial a 0 9 both 1 1"], ["dial a 9 0 both 1 1"],
                     ["dial a 0 9 both 0 1"], ["dial a 0 9 both 1 1000001"], [f"dial a 0 {FAR + 1} both 1 1"], [f"dial a 0 {SIXTY} up 1 1"],
                     [f"dial a -{SIXTY} 0 up 1 1"], ["off a b 1"], ["one a>=1 b<=2"], ["dial a 0 9 both 1 1", "off a b 1"],
                     ["dial a 0 9 both 1 1", "off a a 1"], ["dial a 0 9 both 1 1", f"one a>={GREAT + 1} a<=3"],
                     ["dial a 0 9 both 1 1", f"one a>={SIXTY} a<=-{SIXTY}"], ["dial a 0 9 both 1 1", "one a>=1 a<=3", "one a>=1 a<=3"],
                     ["dial a 0 9 both 1 1", "dial b 0 9 both 1 1", f"off a b {GREAT + 1}"],
                     [f"dial {name} 0 9 both 1 1" for name in NAMES + "m"],
                     ["dial a 0 9 both 1 1"] + [f"one a>=1 a<={k}" for k in range(41)]):
            self.no_text(len(rows), read_house, "\n".join(rows))

    def test_a_dial_behind_a_rule(self):
        rows = MIXED_TEXT.split("\n")
        for k in range(5, 9):
            self.no_text(k, read_house, "\n".join([*rows[:k], "dial e 0 9 both 1 1", *rows[k:]]))
        self.no_text(1, read_house, "off a b 1\ndial a 0 9 both 1 1")
        # The first row that is none goes ahead of what is no house, and of later ones.
        self.no_text(2, read_house, "dial b 0 9 both 1 1\ndial a 0 9 both 1 1\nx\ndial c 0 9 both 1 1")

    def test_line_ends_and_blanks(self):
        self.no_text(0, read_house, "")
        self.no_text(0, read_house, " ")
        self.no_text(0, read_house, "\n")
        self.no_text(0, read_house, "\n" + MIXED_TEXT)
        self.no_text(8, read_house, MIXED_TEXT + "\n")
        self.no_text(4, read_house, MIXED_TEXT.replace("\noff", "\n\noff"))
        self.no_text(0, read_house, MIXED_TEXT.replace("\n", " "))
        self.no_text(0, read_house, MIXED_TEXT.replace("\n", "\r\n"))

    def test_what_is_no_text(self):
        for thing in odd_things():
            self.no_text(0, read_house, thing)

    def test_figures(self):
        self.assertEqual(read_house("dial a -7 10 up 20 30"), house_of([dial("a", -7, 10, "up", 20, 30)]))
        self.no_text(1, read_house, f"dial a {SIXTY} 5 up 1 1")
        self.no_text(0, read_house, f"dial a {SIXTY}9 5 up 1 1")
        self.no_text(1, read_house, f"dial a -{SIXTY} 5 up 0 1")
        self.no_text(0, read_house, f"dial a -{SIXTY}9 5 up 0 1")

    def test_no_house_is_not_shown(self):
        for thing in odd_things():
            with self.assertRaises(NoHouse):
                show_house(thing)
        with self.assertRaises(NoHouse) as caught:
            show_house((MIXED[0], MIXED[1] * 2))
        self.assertEqual(caught.exception.fault, ("rule", 4))


class Chains(Texts):
    def test_written(self):
        self.assertEqual(show_chain(CHAIN), CHAIN_TEXT)
        self.assertEqual(read_chain(CHAIN_TEXT), CHAIN)
        self.assertEqual(show_chain(CHAIN[:1]), "a>=5")
        self.assertEqual(read_chain("a>=5"), CHAIN[:1])
        self.assertEqual(read_chain(f"z<=-{GREAT}"), [(("z", "most", -GREAT), None)])

    def test_read_back(self):
        told = 0
        for small, here, wish in small_cases(709, 150):
            answer = nearest(small.house, here, wish)
            for name, a, b in zip(small.names, here, here if answer is None else answer[0]):
                if a != b:
                    chain = reason(small.house, here, wish, name)
                    self.assertEqual(read_chain(show_chain(chain)), chain)
                    self.assertIs(is_chain(small.house, read_chain(show_chain(chain))), True)
                    told += 1
        self.assertGreater(told, 50)

    def test_lengths(self):
        for count in (1, 2, 2000):
            chain = [CHAIN[0]] + [(("b", "most", k), k % 41 - 1) for k in range(count - 1)]
            self.assertEqual(read_chain(show_chain(chain)), chain)
        chain.append((("a", "most", 0), 0))
        with self.assertRaises(NoChain):
            show_chain(chain)
        self.no_text(0, read_chain, show_chain(chain[:-1]) + " 0 a<=0")

    def test_numbers_of_rules(self):
        for by, good in ((-2, False), (-1, True), (0, True), (39, True), (40, False), (True, False), (None, False), ("0", False), (10 ** 59, False)):
            chain = [CHAIN[0], (("b", "least", 2), by)]
            if good:
                self.assertEqual(read_chain(show_chain(chain)), chain)
            else:
                with self.assertRaises(NoChain):
                    show_chain(chain)
        for word, by in (("=", -1), ("0", 0), ("39", 39)):
            self.assertEqual(read_chain(f"a>=5 {word} b>=2"), [CHAIN[0], (("b", "least", 2), by)])
        for word in ("-1", "-2", "40", "00", "01", "-0", "+1", "==", "", "-", "None", "a", "=0", "9" * 60, "9" * 61, "b>=2"):
            self.no_text(0, read_chain, f"a>=5 {word} b>=2")

    def test_wrong_texts(self):
        for text in ("", " ", "\n", CHAIN_TEXT + " ", " " + CHAIN_TEXT, CHAIN_TEXT + "\n", "\n" + CHAIN_TEXT, CHAIN_TEXT.replace(" ", "  ", 1),
                     CHAIN_TEXT.replace(" ", "\n", 1), CHAIN_TEXT + " 0", CHAIN_TEXT + " =", "0 " + CHAIN_TEXT, "a>=5 b>=2", "a>=5 0 0 b>=2", "0", "=",
                     CHAIN_TEXT.upper(), f"a>={GREAT + 1}", f"a>=-{GREAT + 1}", f"a>={SIXTY}", f"a>={SIXTY}9", "a>=05", "a>=-0", "a>=+1", "a>= 5",
                     "a >=5", "a>5", "a<5", "a=5", "a=>5", "a>=", ">=5", "abcdefghi>=5", "A>=5", "a1>=5", "a>=5.", "a>=b", "a>=5>=5", "a>=5 0 b>=x"):
            self.no_text(0, read_chain, text)
        for thing in odd_things():
            self.no_text(0, read_chain, thing)

    def test_no_chain(self):
        wrong = [*odd_things(), [], tuple(CHAIN), CHAIN[1:], [CHAIN[0]] * 2, [CHAIN[0], None], [CHAIN[0], (CHAIN[1][0],)], [list(CHAIN[0])],
                 [(list(CHAIN[0][0]), None)], [(("A", "least", 5), None)], [(("", "least", 5), None)], [(("abcdefghi", "least", 5), None)],
                 [(("a", "Least", 5), None)], [(("a", ">=", 5), None)], [(("a", "least", True), None)], [(("a", "least", GREAT + 1), None)],
                 [(("a", "least", -GREAT - 1), None)], [(("a", "least", None), None)], [((["a"], "least", 1), None)], [(("a", ["least"], 1), None)],
                 [(("a", "least", 1, 1), None)], [(("a", "least", 1), 0)], [(("a", "least", 1), False)], {0: CHAIN[0]}]
        for thing in wrong:
            before = frozen(thing)
            with self.subTest(thing=repr(thing)[:80]), self.assertRaises(NoChain):
                show_chain(thing)
            self.assertEqual(frozen(thing), before)

    def test_no_house_is_asked_for(self):
        self.assertEqual(show_chain([(("nowhere", "least", 1), None), (("else", "most", 2), 17)]), "nowhere>=1 17 else<=2")

    def test_the_same_with_one_thing_otherwise(self):
        """Whatever is shown is read back as the same."""
        shown = 0
        for thing in otherwise(CHAIN):
            try:
                text = show_chain(thing)
            except NoChain:
                continue
            shown += 1
            self.assertEqual(frozen(read_chain(text)), frozen(thing))
        self.assertGreater(shown, 10)

    def test_told_lists_are_new(self):
        told = read_chain(CHAIN_TEXT)
        told.clear()
        self.assertEqual(read_chain(CHAIN_TEXT), CHAIN)
        before = frozen(CHAIN)
        show_chain(CHAIN)
        self.assertEqual(frozen(CHAIN), before)

    def test_deep_things(self):
        for make in (lambda part: [part], lambda part: (part,), lambda part: [(part, None)]):
            with self.assertRaises(NoChain):
                show_chain(deep(make))


class Whole(unittest.TestCase):
    def test_texts_changed_by_one_sign(self):
        """A text that is read is just the one that is shown of it."""
        pick = random.Random(719)
        read = 0
        for text, call, show in ((MIXED_TEXT, read_house, show_house), (CHAIN_TEXT, read_chain, show_chain)):
            for _ in range(2500):
                at = pick.randrange(len(text) + 1)
                sign = pick.choice(" 0123456789-+=<>abcdownupleastmoffne\n~;")
                other = pick.choice([text[:at] + sign + text[at:], text[:at] + sign + text[at + 1:], text[:at] + text[at + 1:]])
                try:
                    thing = call(other)
                except NoText as refusal:
                    self.assertIs(type(refusal.row), int)
                    continue
                read += 1
                self.assertEqual(show(thing), other)
        self.assertGreater(read, 300)
        self.assertEqual(nearest(read_house(MIXED_TEXT), MIXED_START, ()), (MIXED_START, 0, 0))


if __name__ == "__main__":
    unittest.main()
