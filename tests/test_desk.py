"""[26] a desk: each row, told and refused; [2] and [3] with it."""

import random
import unittest

from plainly import some_wish, small_cases
from samples import FAR, GREAT, MIXED, MIXED_START, frozen, odd_things, wide_house
from test_texts import MIXED_TEXT

from pawldials.beats import quickest
from pawldials.desk import Desk
from pawldials.errors import (Broken, Never, NoDial, NoHouse, NoNumber, NoPrice, NoRow, NoRule, NoStanding, NoStrength,
                              NoText, NothingDone, NotYet, NoWish, Poor, Taken, TooStrong, Weak)
from pawldials.finding import some_standing, spans
from pawldials.houses import is_standing
from pawldials.keepers import Keeper
from pawldials.nearest import nearest
from pawldials.ruling import follows
from pawldials.texts import show_house

# Each row, well written; what it asks for first.
OF_HOUSE = ["show", "spans", "spans a>=1 b<=2", "some", "follows off a b 3", "follows one a>=1 b<=2", "keeper 1 1 0 2 3"]
OF_KEEPER = ["earn 5", "turn a 1", "meet", "meet a>=1", "put off a b 9", "strike off a b 3", "undo", "again", "stand", "coins", "paid", "can",
             "can a>=5", "beats", "beats a>=2"]
ASKED = [*OF_HOUSE, *OF_KEEPER]


def desk_of(text=MIXED_TEXT, *rows):
    desk = Desk()
    for row in (f"house\n{text}", *rows):
        assert desk.say(row) == "ok", row
    return desk


def rich(*rows):
    return desk_of(MIXED_TEXT, "keeper 9 1 0 2 3", "earn 1000000", *rows)


def numbers_in(text):
    return tuple(int(word) for word in text.split(" "))


def written(wish):
    return "".join(f" {name}{'>=' if sort == 'least' else '<='}{i}" for name, sort, i in wish)


class Told(unittest.TestCase):
    def test_of_a_house(self):
        desk = Desk()
        self.assertEqual(desk.say("house\n" + MIXED_TEXT), "ok")
        self.assertEqual(desk.say("show"), MIXED_TEXT)
        self.assertEqual(desk.say("spans"), "a 0 8; b -3 5; c 0 9; d -9 9")
        self.assertEqual(desk.say("spans c>=5 a>=6"), "-")
        self.assertEqual(desk.say("spans c>=5 a>=5"), "a 5 5; b 2 5; c 5 5; d -9 0")
        self.assertEqual(desk.say("spans" + " a>=1" * 20), desk.say("spans a>=1"))
        numbers = numbers_in(desk.say("some"))
        self.assertIs(is_standing(MIXED, numbers), True)
        self.assertEqual(desk.say("follows off a b 3"), "yes")
        self.assertEqual(desk.say("follows off a b 4"), "yes")
        numbers = numbers_in(desk.say("follows off a b 2"))
        self.assertEqual(numbers[0], numbers[1] + 3)
        self.assertEqual(desk.say("follows one c<=4 d<=0"), "yes")
        self.assertEqual(desk.say("follows one a<=8 a<=8"), "yes")

    def test_a_house_without_standings(self):
        desk = desk_of(show_house(wide_house(("off", "a", "b", -1), ("off", "b", "a", 0))))
        self.assertEqual(desk.say("some"), "-")
        self.assertEqual(desk.say("spans"), "-")
        self.assertEqual(desk.say("follows off a b -5"), "yes")

    def test_one_dial(self):
        desk = desk_of("dial gate -3 3 up 1 1", "keeper 1 -2", "earn 9")
        self.assertEqual(desk.say("spans"), "gate -3 3")
        self.assertEqual(desk.say("stand"), "-2")
        self.assertEqual(desk.say("can gate>=1"), "3 1 1")
        self.assertEqual(desk.say("turn gate 2"), "ok")
        self.assertEqual(desk.say("stand"), "2")

    def test_of_a_keeper(self):
        desk = desk_of(MIXED_TEXT, "keeper 1 1 0 2 3")
        self.assertEqual([desk.say(row) for row in ("stand", "coins", "paid")], ["1 0 2 3", "0", "0"])
        self.assertEqual(desk.say("earn 30"), "ok")
        self.assertEqual(desk.say("can a>=5"), "18 1 5 2 2 3")
        self.assertEqual(desk.say("can"), "0 0 1 0 2 3")
        self.assertEqual(desk.say("can a>=9"), "-")
        self.assertEqual(desk.say("beats a>=5"), str(quickest(MIXED, MIXED_START, (("a", "least", 5),))))
        self.assertEqual(desk.say("beats"), "0")
        self.assertEqual(desk.say("turn a 5"), "ok")
        self.assertEqual([desk.say(row) for row in ("stand", "coins", "paid")], ["5 2 2 3", "12", "18"])
        self.assertEqual(desk.say("meet a<=4 b<=2"), "ok")
        self.assertEqual([desk.say(row) for row in ("stand", "coins", "paid")], ["4 2 2 3", "9", "21"])
        self.assertEqual(desk.say("meet"), "ok")
        self.assertEqual(desk.say("undo"), "ok")
        self.assertEqual(desk.say("undo"), "ok")
        self.assertEqual(desk.say("stand"), "5 2 2 3")
        self.assertEqual(desk.say("again"), "ok")
        self.assertEqual(desk.say("stand"), "4 2 2 3")

    def test_all_is_asked_of_the_keepers_house(self):
        desk = rich("put one a<=1 a<=1", "strike most a c 10")
        rows = MIXED_TEXT.split("\n")
        self.assertEqual(desk.say("show"), "\n".join([*rows[:5], *rows[6:], "one a<=1 a<=1"]))
        self.assertEqual(desk.say("spans").split("; ")[0], "a 0 1")
        self.assertEqual(desk.say("follows one a<=2 a<=2"), "yes")
        self.assertNotEqual(desk.say("follows most a c 9"), "yes")
        self.assertLessEqual(numbers_in(desk.say("some"))[0], 1)
        self.assertEqual(desk.say("can a>=2"), "-")
        with self.assertRaises(Never):
            desk.say("beats a>=2")
        # A new keeper is one of the house as it was told.
        self.assertEqual(desk.say("keeper 2 0 0 0 0"), "ok")
        self.assertEqual(desk.say("show"), MIXED_TEXT)
        self.assertEqual([desk.say(row) for row in ("stand", "coins", "paid")], ["0 0 0 0", "0", "0"])
        with self.assertRaises(NothingDone):
            desk.say("undo")

    def test_a_second_house_ends_the_keeper(self):
        desk = rich()
        self.assertEqual(desk.say("house\ndial z 0 9 both 1 1"), "ok")
        self.assertEqual(desk.say("show"), "dial z 0 9 both 1 1")
        for row in OF_KEEPER:
            with self.assertRaises(NotYet):
                desk.say(row)
        self.assertEqual(desk.say("keeper 1 4"), "ok")
        self.assertEqual(desk.say("coins"), "0")
        # The same house told once more ends it, too; one that is refused doesn't.
        with self.assertRaises(NoText):
            desk.say("house\ndial z 9 0 both 1 1")
        self.assertEqual(desk.say("stand"), "4")
        self.assertEqual(desk.say("house\ndial z 0 9 both 1 1"), "ok")
        with self.assertRaises(NotYet):
            desk.say("stand")

    def test_great_numbers(self):
        desk = desk_of(show_house(wide_house(("most", "a", "b", 0))), f"keeper 1 -{FAR} {FAR}", f"earn {10 ** 40}")
        self.assertEqual(desk.say(f"can a>={FAR}"), f"{4 * FAR} 1 {FAR} -{FAR}")
        self.assertEqual(desk.say(f"beats a>={FAR}"), str(2 * FAR + 1))
        self.assertEqual(desk.say(f"turn a {FAR}"), "ok")
        self.assertEqual(desk.say("coins"), str(10 ** 40 - 4 * FAR))

    def test_two_desks(self):
        one, other = rich(), rich()
        one.say("turn a 3")
        self.assertEqual(other.say("stand"), "1 0 2 3")

    def test_beside_the_functions(self):
        pick = random.Random(809)
        for small, here, wish in small_cases(809, 120):
            house = small.house
            desk = desk_of(show_house(house))
            found = spans(house, wish)
            rows = [] if found is None else [f"{name} {found[name][0]} {found[name][1]}" for name in small.names]
            self.assertEqual(desk.say("spans" + written(wish)), "; ".join(rows) or "-")
            self.assertEqual(numbers_in(desk.say("some")), some_standing(house)[1])
            for rule in house[1]:
                row = show_house((house[0], (rule,))).split("\n")[-1]
                rest = tuple(other for other in house[1] if other != rule)
                loose = desk_of(show_house((house[0], rest)))
                numbers = follows((house[0], rest), rule)
                self.assertEqual(loose.say("follows " + row), "yes" if numbers is None else " ".join(map(str, numbers)))
            desk.say(f"keeper 3 {' '.join(map(str, here))}")
            keeper = Keeper(house, here, 3)
            for one in (desk.say, lambda row: keeper.do(("earn", 50))):
                one("earn 50")
            for _ in range(4):
                wish = some_wish(pick, small, here)
                answer = nearest(house, keeper.stand_now(), wish)
                numbers = "-" if answer is None else " ".join(map(str, (*answer[1:], *answer[0])))
                self.assertEqual(desk.say("can" + written(wish)), numbers)
                try:
                    keeper.do(("meet", wish))
                except (Never, Weak, Poor) as refusal:
                    with self.assertRaises(type(refusal)):
                        desk.say("meet" + written(wish))
                else:
                    self.assertEqual(desk.say("meet" + written(wish)), "ok")
                self.assertEqual(numbers_in(desk.say("stand")), keeper.stand_now())
                self.assertEqual(desk.say("coins"), str(keeper.coins_now()))
                self.assertEqual(desk.say("paid"), str(keeper.paid_now()))


class Refused(unittest.TestCase):
    def refused(self, error, desk, row):
        before = frozen(row)
        with self.subTest(row=repr(row)[:80]), self.assertRaises(error) as caught:
            desk.say(row)
        self.assertIs(type(caught.exception), error)
        self.assertEqual(frozen(row), before)
        return caught.exception

    def test_not_yet(self):
        for row in ASKED:
            self.refused(NotYet, Desk(), row)
        desk = desk_of()
        for row in OF_KEEPER:
            self.refused(NotYet, desk, row)
        for row in OF_HOUSE:
            desk.say(row)
        # Words well written that the functions would refuse: there is nothing to refuse them yet.
        for row in ("turn z 5", "earn 0", "keeper 0 99", "spans z>=1", "follows off a a 1", f"meet a>={GREAT + 1}"):
            self.refused(NotYet, Desk(), row)

    def test_what_is_no_row(self):
        for desk in (Desk(), desk_of(), rich()):
            for thing in [*odd_things(), b"show", "", " ", "\n", "house", "house ", "house\t", " house\n" + MIXED_TEXT, "house \n" + MIXED_TEXT,
                          "houses\n" + MIXED_TEXT, "House\n" + MIXED_TEXT, "house x\n" + MIXED_TEXT, "house " + MIXED_TEXT, "hous", "ok", "do", "earn",
                          "Show", "show ", " show", "show\n", "\nshow", "show x", "some 1", "undo 1", "again 1", "stand 1", "coins 1", "paid 1",
                          "undo ", "undo\n", "loses", "deeds", "copied", "forgotten a", "needless", "-"]:
                self.refused(NoRow, desk, thing)

    def test_counts_of_words(self):
        sayings = " a>=1" * 20
        for desk in (Desk(), desk_of(), rich()):
            for row in ("earn 1 2", "earn ", "turn", "turn a", "turn a 1 2", "keeper", "keeper 1", "keeper 1" + " 0" * 13, "follows", "put", "strike",
                        "follows off a b", "follows off a b 1 2", "put one a>=1", "put one a>=1 b>=1 c>=1", "strike off a b", "follows one", "put off",
                        f"spans{sayings} a>=1", f"meet{sayings} a>=1", f"can{sayings} a>=1", f"beats{sayings} a>=1"):
                self.refused(NoRow, desk, row)
        desk = rich()
        for word in ("spans", "can", "beats"):
            desk.say(word + sayings)
        self.assertEqual(desk.say("meet" + sayings), "ok")
        for count in (1, 5, 12):
            self.refused(NoStanding, desk, "keeper 1" + " 0" * count)

    def test_words_not_written_so(self):
        numbers = ("", "-", "+1", "01", "-0", "00", "1.0", "a", "1_0", "9" * 61, "-" + "9" * 61, "1\n", "\n1", "1;", "0x1")
        sayings = ("", "a", "a>=", ">=1", "a>1", "a=1", "a>=01", "a>=-0", "a>=+1", "A>=1", "abcdefghi>=1", "a>=1\n", "a>=1;", "a>=1>=2", "a<=>=1",
                   "a>=" + "9" * 61)
        names = ("", "A", "a1", "abcdefghi", "a\n", "1", "-")
        rows = [f"{row} {word}" for row in ("earn", "turn a", "follows off a b", "put most a b", "strike least a b", "keeper 1", "keeper 1 0 0")
                for word in numbers]
        rows += [f"keeper {word} 1 0 2 3" for word in numbers]
        rows += [f"{row} {word}" for row in ("spans", "spans a>=1", "meet", "can a>=1", "beats", "follows one a>=1", "put one a<=2") for word in sayings]
        rows += [f"{row} one {word} a>=1" for row in ("follows", "put", "strike") for word in sayings]
        rows += [f"turn {word} 1" for word in names] + [f"put off {word} b 1" for word in names] + [f"strike most a {word} 1" for word in names]
        rows += ["put dial a 0 9 both 1 1", "follows two a b 1", "put Off a b 1", "strike one a b 1", "put off a>=1 b>=1", "follows  off a b 1",
                 "follows off  a b 1", "spans  a>=1", "spans a>=1  b>=1", "earn  1", "meet ", "can ", "keeper  1 0", "turn a  1", "follows off a b 1 ",
                 "spans\na>=1", "earn\n1", "turn a\n1"]
        for desk in (Desk(), desk_of(), rich()):
            for row in rows:
                self.refused(NoRow, desk, row)

    def test_as_read_house_refuses(self):
        desk = rich()
        for text, row in (("", 0), ("x", 0), ("\n" + MIXED_TEXT, 0), (MIXED_TEXT + "\n", 8), ("dial a 9 0 both 1 1", 1), (MIXED_TEXT + "\noff a b 3", 9),
                          ("dial a 0 9 both 1 1\ndial b 0 9 bth 1 1", 1)):
            self.assertEqual(self.refused(NoText, desk, "house\n" + text).row, row)
            self.assertEqual(self.refused(NoText, Desk(), "house\n" + text).row, row)
        self.assertEqual(desk.say("show"), MIXED_TEXT)
        self.assertEqual(desk.say("coins"), "1000000")

    def test_as_the_functions_refuse(self):
        desk = rich()
        nines = "9" * 60
        for row, error in (("spans z>=1", NoWish), (f"spans a>={GREAT + 1}", NoWish), (f"spans a<=-{nines}", NoWish), ("follows off a z 1", NoRule),
                           ("follows off a a 1", NoRule), (f"follows most a b {GREAT + 1}", NoRule), (f"follows one a>={nines} a>=1", NoRule),
                           ("keeper 1 9 0 2 3", NoStanding), ("keeper 0 9 0 2 3", NoStanding), ("keeper 1 1 0 2", NoStanding),
                           ("keeper 0 1 0 2 3", NoStrength), ("keeper -1 1 0 2 3", NoStrength), ("earn 0", NoPrice), ("earn -1", NoPrice),
                           (f"earn {10 ** 40 + 1}", NoPrice), (f"earn {nines}", NoPrice), ("turn z 1", NoDial), ("turn z 99", NoDial),
                           ("turn a 10", NoNumber), (f"turn a {nines}", NoNumber), ("turn a 9", Never), ("turn c 1", Never), ("meet z>=1", NoWish),
                           ("meet a>=9", Never), ("can z>=1", NoWish), ("beats z>=1", NoWish), ("beats a>=9", Never), ("put off a z 1", NoRule),
                           ("put off a b 3", Taken), ("put off a b 0", Broken), ("strike off a b 4", NoRule), ("strike off a z 4", NoRule)):
            self.refused(error, desk, row)
        self.assertEqual([desk.say(row) for row in ("stand", "coins", "paid", "show")], ["1 0 2 3", "1000000", "0", MIXED_TEXT])
        self.assertEqual(desk.say("undo"), "ok")
        self.refused(NothingDone, desk, "undo")
        self.assertEqual(self.refused(Poor, desk, "turn a 2").price, 2)
        self.assertEqual(desk.say("again"), "ok")
        self.refused(NothingDone, desk, "again")

    def test_weak_and_too_strong(self):
        desk = desk_of("dial a 0 99 both 1 1\none a<=10 a>=40", "keeper 29 3")
        self.assertEqual(self.refused(Weak, desk, "meet a>=11").strength, 30)
        self.assertEqual(self.refused(TooStrong, desk, "beats a>=11").strength, 30)
        self.assertEqual(desk.say("can a>=11"), "37 30 40")

    def test_the_forty_first_rule(self):
        desk = desk_of("dial a 0 99 both 1 1\n" + "\n".join(f"one a<={k} a>=0" for k in range(40)), "keeper 1 3")
        self.assertEqual(self.refused(NoHouse, desk, "put one a<=99 a<=98").fault, ("house",))
        self.assertEqual(desk.say("strike one a<=7 a>=0"), "ok")
        self.assertEqual(desk.say("put one a<=99 a<=98"), "ok")


if __name__ == "__main__":
    unittest.main()
