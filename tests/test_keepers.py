"""[23] and [24] keepers: deeds, their refusals, taking back, doing again, losing, copies; [2] and [3] with them."""

import random
import unittest

from plainly import Small, bound_rules, small_cases, some_wish
from samples import (FAR, GREAT, MIXED, MIXED_START, NAMES, dial, frozen, house_of, odd_things, plain_rule_holds,
                     random_rule, wide_house)

from pawldials.errors import (Broken, Never, NoDeed, NoDial, NoHouse, NoNumber, NoPrice, NoRule, NoStanding, NoStrength,
                              NothingDone, NoWish, NoWishes, Poor, Taken, Weak)
from pawldials.keepers import Keeper
from pawldials.nearest import nearest

RICH = 10 ** 40
GAP = house_of([dial("a", 0, 99, "both", 2, 3)], ("one", ("a", "most", 10), ("a", "least", 40)))
PUT = ("off", "b", "a", 3)


def rich(house=MIXED, standing=MIXED_START, strength=99, coins=RICH):
    keeper = Keeper(house, standing, strength)
    keeper.do(("earn", coins))
    return keeper


def all_of(keeper):
    """All that can be asked of a keeper without changing it."""
    return (keeper.stand_now(), keeper.coins_now(), keeper.paid_now(), keeper.house_now(), keeper.deeds_now())


def around(keeper):
    """The same, with what comes behind taking back and doing again all there is."""
    own = keeper.copied()
    told = [all_of(own)]
    for step in (own.undo, own.again):
        try:
            while True:
                step()
                told.append(all_of(own))
        except NothingDone:
            pass
    return told


class PlainKeeper:
    """One that goes through all standings of small houses, and does everything from the start to take one back."""

    def __init__(self, house, standing, strength):
        self.start = (house, standing, strength)
        self.deeds = []
        self.undone = []
        self.now = (house, standing, 0, 0)

    def walk(self, small, here, coins, paid, wish):
        answer = small.nearest(here, wish)
        if answer is None:
            return Never
        numbers, price, strength = answer
        if strength > self.start[2]:
            return Weak(strength)
        if price > coins:
            return Poor(price)
        return (small.house, numbers, coins - price, paid + price)

    def behind(self, deed):
        """The state behind it, or the refusal."""
        house, here, coins, paid = self.now
        word, *rest = deed
        if word == "earn":
            return (house, here, coins + rest[0], paid)
        if word == "meet":
            return self.walk(Small(house), here, coins, paid, rest[0])
        if word == "turn":
            wish = tuple((rest[0], sort, rest[1]) for sort in ("least", "most"))
            row = [row for row in house[0] if row[0] == rest[0]]
            if not row:
                return NoDial
            if not row[0][1] <= rest[1] <= row[0][2]:
                return NoNumber
            return self.walk(Small(house), here, coins, paid, wish)
        rules = list(house[1])
        if word == "strike":
            if rest[0] not in rules:
                return NoRule
            rules.remove(rest[0])
        else:
            if rest[0] in rules:
                return Taken
            if not plain_rule_holds(rest[0], dict(zip([row[0] for row in house[0]], here))):
                return Broken
            rules.append(rest[0])
        return ((house[0], tuple(rules)), here, coins, paid)

    def do(self, deed):
        state = self.behind(deed)
        if isinstance(state, tuple):
            self.now = state
            self.deeds.append(deed)
            self.undone = []
            return None
        return state

    def undo(self):
        if not self.deeds:
            return NothingDone
        *deeds, last = self.deeds
        undone = [*self.undone, last]
        self.__init__(*self.start)
        for deed in deeds:
            self.do(deed)
        self.undone = undone
        return None

    def again(self):
        if not self.undone:
            return NothingDone
        *left, deed = self.undone
        self.do(deed)
        self.undone = left
        return None

    def loses(self, deed, wishes):
        state = self.behind(deed)
        if not isinstance(state, tuple):
            return state
        ahead, then = Small(self.now[0]), Small(state[0])
        return [n for n, wish in enumerate(wishes) if ahead.goals(self.now[1], wish) and not then.goals(state[1], wish)]


def some_deed(pick, small, here):
    """A deed; small and here are of the house and the standing at first."""
    names = small.names
    word = pick.choice(["earn", "turn", "turn", "meet", "meet", "put", "put", "strike"])
    if word == "earn":
        return (word, pick.choice([1, 3, pick.randint(1, 60)]))
    if word == "turn":
        name, low, high, *_ = pick.choice(small.house[0])
        return (word, name, pick.randint(low - (pick.random() < 0.1), high))
    if word == "meet":
        return (word, some_wish(pick, small, here))
    if word == "strike" and small.house[1] and pick.random() < 0.8:
        return (word, pick.choice(small.house[1]))
    rule = pick.choice([random_rule(pick, names), *bound_rules(pick, small.house[0])])
    return (word, rule)


class BesideAPlainOne(unittest.TestCase):
    def same(self, keeper, plain):
        house, here, coins, paid = plain.now
        self.assertEqual(all_of(keeper), (here, coins, paid, house, plain.deeds))

    def refused_alike(self, refusal, call, *things):
        """Do it, as the plain one did it: refused alike, or told."""
        kind = refusal if isinstance(refusal, type) else type(refusal)
        if refusal is None or isinstance(refusal, list):
            self.assertEqual(call(*things), refusal)
            return
        with self.assertRaises(kind) as caught:
            call(*things)
        self.assertIs(type(caught.exception), kind)
        for field in ("strength", "price"):
            self.assertEqual(getattr(caught.exception, field, None), getattr(refusal, field, None))

    def test_many_deeds(self):
        pick = random.Random(601)
        told = {}
        for small, here, _ in small_cases(601, 400):
            strength = pick.choice([1, 1, 2, 5])
            keeper, plain = Keeper(small.house, here, strength), PlainKeeper(small.house, here, strength)
            for _ in range(14):
                step = pick.choice(["do"] * 5 + ["undo", "again", "loses", "copied"])
                things = ()
                if step in ("do", "loses"):
                    things = (some_deed(pick, small, here),)
                if step == "loses":
                    things += ([some_wish(pick, small, here) for _ in range(pick.randint(1, 4))],)
                with self.subTest(house=small.house, here=here, step=step, things=things):
                    if step == "copied":
                        keeper = keeper.copied()
                    else:
                        answer = getattr(plain, step)(*things)
                        key = (step, getattr(answer, "__name__", type(answer).__name__))
                        told[key] = told.get(key, 0) + 1
                        self.refused_alike(answer, getattr(keeper, step), *things)
                    self.same(keeper, plain)
        for key in (("do", "NoneType"), ("undo", "NoneType"), ("again", "NoneType"), ("undo", "NothingDone"), ("again", "NothingDone"),
                    ("loses", "list"), ("do", "Never"), ("do", "Weak"), ("do", "Poor"), ("do", "Taken"), ("do", "Broken"),
                    ("do", "NoRule"), ("do", "NoNumber"), ("loses", "Never")):
            self.assertGreater(told.get(key, 0), 2, (key, told))

    def test_loses(self):
        """What a deed closes for ever, in houses with pawls, by keepers who lack nothing."""
        pick = random.Random(607)
        found = {}
        for small, here, _ in small_cases(607, 200, ways=("up", "down", "both")):
            keeper, plain = Keeper(small.house, here, 99), PlainKeeper(small.house, here, 99)
            for one in (keeper, plain):
                one.do(("earn", 10 ** 6))
            before = around(keeper)
            for _ in range(4):
                deed = some_deed(pick, small, here)
                wishes = [some_wish(pick, small, here, 2) for _ in range(pick.randint(1, 10))]
                answer = plain.loses(deed, wishes)
                self.refused_alike(answer, keeper.loses, deed, wishes)
                if isinstance(answer, list):
                    found.setdefault(deed[0], []).append(bool(answer))
            self.assertEqual(around(keeper), before)
        for word in ("turn", "meet", "put"):
            self.assertEqual(set(found[word]), {True, False})
        for word in ("earn", "strike"):
            self.assertEqual(set(found[word]), {False})


class ByHand(unittest.TestCase):
    def test_at_first(self):
        keeper = Keeper(MIXED, MIXED_START, 1)
        self.assertEqual(all_of(keeper), (MIXED_START, 0, 0, MIXED, []))

    def test_each_deed(self):
        keeper = Keeper(MIXED, MIXED_START, 1)
        self.assertIsNone(keeper.do(("earn", 30)))
        self.assertIsNone(keeper.do(("turn", "a", 5)))
        self.assertEqual(all_of(keeper)[:3], ((5, 2, 2, 3), 12, 18))
        self.assertIsNone(keeper.do(("meet", (("a", "most", 4),))))
        self.assertEqual(all_of(keeper)[:3], ((4, 2, 2, 3), 9, 21))
        self.assertIsNone(keeper.do(("put", PUT)))
        self.assertEqual(keeper.house_now(), (MIXED[0], MIXED[1] + (PUT,)))
        self.assertIsNone(keeper.do(("strike", MIXED[1][1])))
        self.assertEqual(keeper.house_now(), (MIXED[0], (MIXED[1][0], MIXED[1][2], MIXED[1][3], PUT)))
        deeds = [("earn", 30), ("turn", "a", 5), ("meet", (("a", "most", 4),)), ("put", PUT), ("strike", MIXED[1][1])]
        self.assertEqual(keeper.deeds_now(), deeds)
        for k in range(5, 0, -1):
            self.assertIsNone(keeper.undo())
            self.assertEqual(keeper.deeds_now(), deeds[:k - 1])
        self.assertEqual(all_of(keeper), (MIXED_START, 0, 0, MIXED, []))
        for k in range(5):
            self.assertIsNone(keeper.again())
            self.assertEqual(keeper.deeds_now(), deeds[:k + 1])
        self.assertEqual(all_of(keeper)[:3], ((4, 2, 2, 3), 9, 21))

    def test_turning_to_where_it_stands(self):
        keeper = Keeper(MIXED, MIXED_START, 1)
        for name, number in zip("abcd", MIXED_START):
            keeper.do(("turn", name, number))
        keeper.do(("meet", ()))
        self.assertEqual(all_of(keeper)[:3], (MIXED_START, 0, 0))
        self.assertEqual(len(keeper.deeds_now()), 5)

    def test_just_that_number(self):
        # The nearest with a at least 20 has it at 40, and none has it at 20.
        keeper = rich(GAP, (3,))
        with self.assertRaises(Never):
            keeper.do(("turn", "a", 20))
        with self.assertRaises(Never):
            keeper.do(("turn", "a", 11))
        keeper.do(("turn", "a", 40))
        self.assertEqual(all_of(keeper)[:3], ((40,), RICH - 74, 74))

    def test_to_the_last_coin(self):
        for coins, price in ((74, None), (73, 74), (75, None), (1, 74)):
            keeper = rich(GAP, (3,), 30, coins)
            for deed in (("turn", "a", 40), ("meet", (("a", "least", 11),))):
                if price is None:
                    keeper.do(deed)
                    self.assertEqual((keeper.coins_now(), keeper.paid_now()), (coins - 74, 74))
                    keeper.undo()
                else:
                    with self.assertRaises(Poor) as caught:
                        keeper.do(deed)
                    self.assertEqual(caught.exception.price, price)
        keeper = Keeper(GAP, (3,), 30)
        with self.assertRaises(Poor):
            keeper.do(("turn", "a", 4))

    def test_strength(self):
        for strength in (1, 29, 30, 31, 10 ** 59):
            keeper = Keeper(GAP, (3,), strength)
            for deed in (("turn", "a", 40), ("meet", (("a", "least", 11),))):
                with self.assertRaises(Weak if strength < 30 else Poor) as caught:
                    keeper.do(deed)
                if strength < 30:
                    self.assertEqual(caught.exception.strength, 30)

    def test_great_coins(self):
        keeper = rich(wide_house(), (-FAR, FAR), 1)
        keeper.do(("earn", RICH))
        keeper.do(("meet", (("a", "least", FAR), ("b", "most", -FAR))))
        self.assertEqual(all_of(keeper)[:3], ((FAR, -FAR), 2 * RICH - 4 * FAR, 4 * FAR))

    def test_a_rule_bars_and_a_struck_one_no_more(self):
        keeper = rich()
        wish = (("a", "least", 9),)
        self.assertIsNone(keeper.can_meet(wish))
        keeper.do(("strike", MIXED[1][1]))
        self.assertEqual(keeper.can_meet(wish), None)
        keeper.do(("strike", MIXED[1][0]))
        self.assertEqual(keeper.can_meet(wish), ((9, 0, 2, 3), 16, 1))
        stay = ("one", ("a", "most", 1), ("a", "most", 1))
        self.assertEqual(keeper.loses(("put", stay), [wish, ()]), [0])
        keeper.do(("put", stay))
        self.assertIsNone(keeper.can_meet(wish))
        with self.assertRaises(Never):
            keeper.do(("meet", wish))
        keeper.undo()
        keeper.do(("meet", wish))
        self.assertEqual(keeper.stand_now(), (9, 0, 2, 3))

    def test_can_meet_is_what_nearest_tells(self):
        for small, here, wish in small_cases(613, 100):
            keeper = Keeper(small.house, here, 1)
            self.assertEqual(keeper.can_meet(wish), nearest(small.house, here, wish))

    def test_loses_by_pawls(self):
        keeper = rich()
        wishes = [(("c", "most", 2),), (), (("c", "most", 4),), (("c", "least", 99),), (("d", "least", 3),), (("d", "most", 2),)]
        self.assertEqual(keeper.loses(("turn", "c", 3), wishes), [0])
        self.assertEqual(keeper.loses(("turn", "c", 5), wishes), [0, 2, 4])
        self.assertEqual(keeper.loses(("turn", "d", 2), wishes), [4])
        self.assertEqual(keeper.loses(("earn", 1), wishes), [])
        self.assertEqual(keeper.loses(("strike", MIXED[1][0]), wishes), [])
        # By whatever strength and coins: a keeper that has spent all may still meet what no pawl closes.
        poor = rich(coins=11)
        self.assertEqual(poor.loses(("turn", "c", 3), [(("a", "least", 5),)]), [])
        self.assertEqual(all_of(keeper), all_of(rich()))

    def test_behind_a_new_deed_nothing_is_done_again(self):
        keeper = rich()
        keeper.do(("turn", "a", 2))
        keeper.do(("turn", "a", 3))
        keeper.undo()
        keeper.undo()
        keeper.again()
        keeper.do(("earn", 5))
        with self.assertRaises(NothingDone):
            keeper.again()
        self.assertEqual(keeper.deeds_now(), [("earn", RICH), ("turn", "a", 2), ("earn", 5)])
        # What is refused is no deed: what was taken back can still be done again.
        keeper.undo()
        for deed in (None, ("turn", "a", 99), ("put", MIXED[1][0])):
            with self.assertRaises(ValueError):
                keeper.do(deed)
        with self.assertRaises(NoDeed):
            keeper.loses(None, [()])
        keeper.loses(("turn", "a", 4), [()])
        keeper.again()
        self.assertEqual(keeper.deeds_now()[-1], ("earn", 5))

    def test_copies_go_their_own_way(self):
        keeper = rich()
        keeper.do(("turn", "a", 2))
        keeper.do(("put", PUT))
        keeper.undo()
        other = keeper.copied()
        self.assertIs(type(other), Keeper)
        self.assertEqual(around(other), around(keeper))
        before = around(keeper)
        other.again()
        other.do(("turn", "a", 4))
        other.do(("strike", PUT))
        self.assertEqual(around(keeper), before)
        third = other.copied()
        before = around(other)
        keeper.undo()
        keeper.undo()
        third.undo()
        third.do(("earn", 7))
        self.assertEqual(around(other), before)
        self.assertEqual(keeper.deeds_now(), [])
        self.assertEqual(third.coins_now(), other.coins_now() + 7)
        # The copy has the strength, too.
        with self.assertRaises(Weak):
            Keeper(GAP, (3,), 29).copied().do(("turn", "a", 40))

    def test_forty_rules(self):
        rules = [("off", "a", "b", 10 + k) for k in range(39)]
        keeper = Keeper(wide_house(*rules), (0, 0), 1)
        with self.assertRaises(Taken):
            keeper.do(("put", rules[7]))
        keeper.do(("put", ("off", "b", "a", 0)))
        self.assertEqual(len(keeper.house_now()[1]), 40)
        more = ("off", "b", "a", 1)
        before = around(keeper)
        for call in (lambda: keeper.do(("put", more)), lambda: keeper.loses(("put", more), [()])):
            with self.assertRaises(NoHouse) as caught:
                call()
            self.assertEqual(caught.exception.fault, ("house",))
        with self.assertRaises(Broken):
            keeper.do(("put", ("off", "b", "a", -1)))
        with self.assertRaises(Taken):
            keeper.do(("put", rules[0]))
        with self.assertRaises(NoRule):
            keeper.do(("put", ("off", "b", "c", 1)))
        self.assertEqual(around(keeper), before)
        keeper.do(("strike", rules[20]))
        keeper.do(("put", more))
        self.assertEqual(keeper.house_now()[1], (*rules[:20], *rules[21:], ("off", "b", "a", 0), more))

    def test_great_houses(self):
        pick = random.Random(617)
        rules = [("off", NAMES[k], NAMES[k + 1], pick.randint(0, FAR)) for k in range(11)]
        rules += [("one", (NAMES[k], "most", 10 ** 17 * (k + 1)), (NAMES[11 - k], "least", 5)) for k in range(6)]
        keeper = rich(wide_house(*rules, count=12), (0,) * 12, 1)
        before = around(keeper)
        done = 0
        for _ in range(60):
            deed = ("turn", pick.choice(NAMES), pick.randint(-FAR, FAR))
            wish = tuple((deed[1], sort, deed[2]) for sort in ("least", "most"))
            answer = nearest(keeper.house_now(), keeper.stand_now(), wish)
            if answer is None:
                with self.assertRaises(Never):
                    keeper.do(deed)
            elif answer[2] > 1:
                with self.assertRaises(Weak):
                    keeper.do(deed)
            else:
                paid = keeper.paid_now()
                keeper.do(deed)
                self.assertEqual((keeper.stand_now(), keeper.paid_now()), (answer[0], paid + answer[1]))
                self.assertEqual(keeper.coins_now(), RICH - keeper.paid_now())
                done += 1
        self.assertGreater(done, 20)
        for _ in range(done):
            keeper.undo()
        self.assertEqual(all_of(keeper), before[0])


class Refusals(unittest.TestCase):
    def refused(self, error, call, *things):
        before = frozen(things)
        with self.subTest(call=call.__name__, things=repr(things)[:80]), self.assertRaises(error) as caught:
            call(*things)
        self.assertIs(type(caught.exception), error)
        self.assertEqual(frozen(things), before)
        return caught.exception

    def deed_refused(self, error, keeper, deed):
        before = around(keeper)
        told = self.refused(error, keeper.do, deed)
        self.refused(error, keeper.loses, deed, [()])
        self.refused(NoWishes, keeper.loses, deed, [])
        self.assertEqual(around(keeper), before)
        return told

    def test_made_of(self):
        self.assertEqual(self.refused(NoHouse, Keeper, None, None, None).fault, ("house",))
        self.assertEqual(self.refused(NoHouse, Keeper, (MIXED[0], MIXED[1] * 2), MIXED_START, 1).fault, ("rule", 4))
        for thing in [*odd_things(), list(MIXED_START), (9, 0, 2, 3)]:
            self.refused(NoStanding, Keeper, MIXED, thing, None)
        for thing in [*odd_things(), 0, "1", [1]]:
            if not (type(thing) is int and thing > 0):
                self.refused(NoStrength, Keeper, MIXED, MIXED_START, thing)
        for strength in (1, 2, 10 ** 59):
            Keeper(MIXED, MIXED_START, strength)

    def test_no_deed(self):
        keeper = rich()
        wrong = [("earn",), ("earn", 1, 1), ("turn", "a"), ("turn", "a", 1, 1), ("meet",), ("meet", (), ()), ("put",), ("put", PUT, PUT),
                 ("strike",), ("strike", PUT, None), ["earn", 1], ["turn", "a", 2], {"earn": 1}, "earn", ("Earn", 1), ("", 1), (None, 1),
                 (["earn"], 1), (("earn",), 1), ({}, 1), ("undo",), ("again",), ("do", ("earn", 1)), ("off", "a", "b", 0), ("earn ", 1)]
        for deed in [*wrong, *odd_things()]:
            self.deed_refused(NoDeed, keeper, deed)

    def test_earn(self):
        keeper = rich()
        for thing in [*odd_things(), 0, RICH + 1, "1", [1], (1,)]:
            if thing != 7 or type(thing) is bool:
                self.deed_refused(NoPrice, keeper, ("earn", thing))
        keeper.do(("earn", 1))
        keeper.do(("earn", RICH))
        self.assertEqual(keeper.coins_now(), 2 * RICH + 1)

    def test_turn(self):
        keeper = rich()
        for name in [*odd_things(), "e", "A", ["a"], ("a",), 0]:
            if name != "a":
                self.deed_refused(NoDial, keeper, ("turn", name, None))
        for number in [*odd_things(), 10, -1, "1", [1], GREAT]:
            if number != 7:
                self.deed_refused(NoNumber, keeper, ("turn", "a", number))
        self.deed_refused(Never, keeper, ("turn", "a", 9))
        self.deed_refused(Never, keeper, ("turn", "c", 1))
        self.deed_refused(Never, keeper, ("turn", "d", 4))
        for number in (True, False):
            self.deed_refused(NoNumber, keeper, ("turn", "a", number))

    def test_meet(self):
        keeper = rich()
        for wish in [*odd_things(), [], (("e", "least", 1),), (("a", "least", 9), None), (("a", "least", True),),
                     (("a", "least", 1),) * 21, [("a", "least", 1)], (["a", "least", 1],)]:
            self.deed_refused(NoWish, keeper, ("meet", wish))
            self.refused(NoWish, keeper.can_meet, wish)
        self.deed_refused(Never, keeper, ("meet", (("a", "least", 9),)))
        keeper.do(("meet", (("a", "least", 1),) * 20))

    def test_weak_goes_ahead_of_poor_and_never_ahead_of_both(self):
        keeper = Keeper(GAP, (3,), 29)
        for deed in (("turn", "a", 40), ("meet", (("a", "least", 11),))):
            self.assertEqual(self.deed_refused(Weak, keeper, deed).strength, 30)
        for deed in (("turn", "a", 4), ("meet", (("a", "least", 5),))):
            self.assertIn(self.deed_refused(Poor, keeper, deed).price, (2, 4))
        for deed in (("turn", "a", 11), ("meet", (("a", "least", 100),))):
            self.deed_refused(Never, keeper, deed)
        self.deed_refused(NoNumber, keeper, ("turn", "a", 100))

    def test_put(self):
        keeper = rich()
        for rule in [*odd_things(), ("off", "a", "a", 1), ("off", "a", "z", 1), ("off", "a", "b", True), list(PUT), ("off", "a", "b", GREAT + 1),
                     ("one", ("a", "least", 1)), ("one", ("a", "least", 1), ("z", "most", 2))]:
            if rule != ("off", "a", "b", 0):
                self.deed_refused(NoRule, keeper, ("put", rule))
                self.deed_refused(NoRule, keeper, ("strike", rule))
        for rule in MIXED[1]:
            self.deed_refused(Taken, keeper, ("put", rule))
        for rule in (("off", "a", "b", 0), ("most", "a", "b", 0), ("least", "a", "b", 2), ("one", ("a", "most", 0), ("b", "least", 1))):
            self.deed_refused(Broken, keeper, ("put", rule))
        keeper.do(("put", PUT))
        self.deed_refused(Taken, keeper, ("put", PUT))
        # A rule that doesn't hold now was there ahead, too: the house has it no more.
        keeper.do(("strike", PUT))
        self.deed_refused(NoRule, keeper, ("strike", PUT))

    def test_strike_takes_a_truth_for_no_number(self):
        keeper = Keeper(house_of([dial("a"), dial("b")], ("off", "a", "b", 1)), (0, 0), 1)
        self.deed_refused(NoRule, keeper, ("strike", ("off", "a", "b", True)))
        self.deed_refused(NoRule, keeper, ("put", ("off", "a", "b", True)))
        self.deed_refused(NoRule, keeper, ("strike", ("off", "a", "b", 2)))
        keeper.do(("strike", ("off", "a", "b", 1)))
        self.assertEqual(keeper.house_now()[1], ())

    def test_no_wishes_goes_ahead_of_the_deed(self):
        keeper = rich()
        good = (("a", "least", 2),)
        for wishes in [*odd_things(), [], [good] * 11, (good,), good, [good, None], [list(good)], [(("e", "least", 1),)]]:
            if wishes != [(), ()]:
                for deed in (None, ("turn", "a", 9), ("earn", 1)):
                    self.refused(NoWishes, keeper.loses, deed, wishes)
        self.refused(NoDeed, keeper.loses, None, [good] * 10)

    def test_nothing_done(self):
        keeper = Keeper(MIXED, MIXED_START, 1)
        for _ in range(2):
            for step in (keeper.undo, keeper.again):
                with self.assertRaises(NothingDone):
                    step()
        keeper.do(("earn", 1))
        with self.assertRaises(NothingDone):
            keeper.again()
        keeper.undo()
        with self.assertRaises(NothingDone):
            keeper.undo()
        keeper.again()
        with self.assertRaises(NothingDone):
            keeper.again()
        self.assertEqual(keeper.coins_now(), 1)


class Own(unittest.TestCase):
    def test_told_lists_are_new(self):
        keeper = rich()
        keeper.do(("turn", "c", 3))
        told = keeper.deeds_now()
        told.clear()
        self.assertEqual(keeper.deeds_now(), [("earn", RICH), ("turn", "c", 3)])
        wishes = [(("c", "most", 3),)]
        lost = keeper.loses(("turn", "c", 4), wishes)
        lost.append(5)
        self.assertEqual(keeper.loses(("turn", "c", 4), wishes), [0])
        self.assertEqual(wishes, [(("c", "most", 3),)])


if __name__ == "__main__":
    unittest.main()
