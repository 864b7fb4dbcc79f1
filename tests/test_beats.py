"""[19] beats: the fewest, the early walk behind each beat, the beat of each number; [2], [3], [10], [12] with them."""

import itertools
import random
import unittest

from plainly import names_of, small_cases
from samples import FAR, GREAT, MIXED, MIXED_START, NAMES, dial, frozen, house_of, odd_things, plain_rule_holds, wide_house

from pawldials.beats import at_beat, beat_of, quickest
from pawldials.errors import Never, NoBeat, NoDial, NoHouse, NoNumber, NoStanding, NoWish, TooStrong
from pawldials.nearest import nearest
from pawldials.walks import walked

ALL = (quickest, lambda *things: at_beat(*things, 0), lambda *things: beat_of(*things, "a", 0))


def subsets(things):
    return itertools.chain.from_iterable(itertools.combinations(things, k) for k in range(len(things) + 1))


def moved(here, turns):
    there = list(here)
    for k, step in turns:
        there[k] += step
    return tuple(there)


def behind_a_beat(small, here):
    """All standings behind one beat: turns of which whichever are made, a standing comes."""
    turns = []
    for k, row in enumerate(small.house[0]):
        for word, step in (("up", 1), ("down", -1)):
            if row[3] in ("both", word) and moved(here, [(k, step)]) in small.standings:
                turns.append((k, step))
    for some in subsets(turns):
        if some and len({k for k, _ in some}) == len(some):
            if all(moved(here, fewer) in small.standings for fewer in subsets(some)):
                yield moved(here, some)


def plain_quickest(small, here, wish):
    """The fewest beats, by going all walks of beats."""
    found, now = {here}, [here]
    for t in itertools.count():
        if any(small.meets(there, wish) for there in now):
            return t
        then = []
        for a in now:
            for b in behind_a_beat(small, a):
                if b not in found:
                    found.add(b)
                    then.append(b)
        now = then


def plain_early(house, here, goal):
    """The numbers behind each beat of the early walk, beat by beat."""
    names = names_of(house)

    def stands(numbers):
        now = dict(zip(names, numbers))
        return all(plain_rule_holds(rule, now) for rule in house[1])

    rows = [here]
    while here != goal:
        turns = [(k, 1 if b > a else -1) for k, (a, b) in enumerate(zip(here, goal)) if a != b]
        here = moved(here, [turn for turn in turns if stands(moved(here, [turn]))])
        assert here != rows[-1]
        rows.append(here)
    return rows


def linked_house(pick, wide):
    """A house of some dials of so wide spans with rules that hold where they stand, and these numbers."""
    names = NAMES[:pick.randint(2, 6)]
    here = {name: pick.randint(-wide, wide // 2) for name in names}
    rules = []
    for _ in range(pick.randint(2, 12)):
        a, b = pick.sample(names, 2)
        word = pick.choice(["off", "off", "off", "most", "least", "one", "one"])
        if word == "one":
            rule = (word, (a, pick.choice(["least", "most"]), here[a] + pick.randint(-wide, wide)),
                    (b, pick.choice(["least", "most"]), here[b] + pick.randint(-wide, wide)))
        else:
            much = here[a] - here[b] if word == "off" else here[a] + here[b]
            rule = (word, a, b, much + pick.choice([0, 0, 1, 1, 2, 5]) * (-1 if word == "least" else 1))
        if rule not in rules and plain_rule_holds(rule, here):
            rules.append(rule)
    house = house_of([dial(name, -2 * wide, 2 * wide) for name in names], *rules)
    return house, tuple(here.values())


class SmallHouses(unittest.TestCase):
    def test_beside_all_walks_of_beats(self):
        told = {}
        for small, here, wish in small_cases(211, 500):
            answer = nearest(small.house, here, wish)
            with self.subTest(house=small.house, here=here, wish=wish):
                if answer is None or answer[2] > 1:
                    key = "never" if answer is None else "strong"
                    for call in ALL:
                        with self.assertRaises(Never if answer is None else TooStrong) as caught:
                            call(small.house, here, wish)
                        if answer is not None:
                            self.assertEqual(caught.exception.strength, answer[2])
                else:
                    key = quickest(small.house, here, wish)
                    self.assertEqual(key, plain_quickest(small, here, wish))
                    self.look_at_early_walk(small.house, here, wish, plain_early(small.house, here, answer[0]))
            told[key] = told.get(key, 0) + 1
        self.assertGreater(min(told[key] for key in ("never", "strong", 0, 1, 2, 3, 4)), 3)

    def look_at_early_walk(self, house, here, wish, rows):
        last = len(rows) - 1
        self.assertEqual(quickest(house, here, wish), last)
        for t in range(last + 3):
            self.assertEqual(at_beat(house, here, wish, t), rows[min(t, last)])
        for k, (name, low, high, *_) in enumerate(house[0]):
            gone = [row[k] for row in rows]
            for i in range(low - 1, high + 2):
                if i in gone:
                    self.assertEqual(beat_of(house, here, wish, name, i), gone.index(i))
                else:
                    with self.assertRaises(NoNumber):
                        beat_of(house, here, wish, name, i)

    def test_pawls(self):
        """Pawls bar the same walks, or change nothing."""
        told = 0
        for small, here, wish in small_cases(223, 150, ways=("up", "down")):
            answer = nearest(small.house, here, wish)
            if answer is not None and answer[2] == 1:
                told += 1
                self.assertEqual(quickest(small.house, here, wish), plain_quickest(small, here, wish))
                self.look_at_early_walk(small.house, here, wish, plain_early(small.house, here, answer[0]))
        self.assertGreater(told, 20)

    def test_longer_walks_beat_by_beat(self):
        """Rules that let dials go only one behind the other, so that there are more beats than any dial has places."""
        pick = random.Random(227)
        told = slow = 0
        while told < 250:
            house, here = linked_house(pick, pick.choice([6, 20]))
            k = pick.randrange(len(here))
            wish = ((NAMES[k], pick.choice(["least", "most"]), here[k] + pick.randint(-20, 20)),)
            answer = nearest(house, here, wish)
            if answer is None or answer[2] != 1:
                continue
            told += 1
            rows = plain_early(house, here, answer[0])
            slow += len(rows) - 1 > max(abs(a - b) for a, b in zip(here, answer[0]))
            with self.subTest(house=house, here=here, wish=wish):
                self.look_at_early_walk(house, here, wish, rows)
        self.assertGreater(slow, 15)


class ByHand(unittest.TestCase):
    def test_several_dials_at_once(self):
        house = house_of([dial("a"), dial("b"), dial("c")])
        wish = (("a", "least", 4), ("b", "most", 2), ("c", "least", 1))
        self.assertEqual(quickest(house, (0, 9, 0), wish), 7)
        self.assertEqual(at_beat(house, (0, 9, 0), wish, 1), (1, 8, 1))
        self.assertEqual(at_beat(house, (0, 9, 0), wish, 5), (4, 4, 1))
        self.assertEqual([beat_of(house, (0, 9, 0), wish, "b", i) for i in (9, 8, 2)], [0, 1, 7])

    def test_where_they_may_not_turn_at_once(self):
        # a at most b: both at once would be a standing, a alone none, so a goes one beat behind.
        house = house_of([dial("a"), dial("b")], ("off", "a", "b", 0))
        wish = (("a", "least", 3),)
        self.assertEqual([at_beat(house, (0, 0), wish, t) for t in range(6)], [(0, 0), (0, 1), (1, 2), (2, 3), (3, 3), (3, 3)])
        self.assertEqual(quickest(house, (0, 0), wish), 4)
        # With b at most one ahead of a, each waits for the other.
        house = house_of([dial("a"), dial("b")], ("off", "a", "b", 0), ("off", "b", "a", 1))
        self.assertEqual(quickest(house, (0, 0), wish), 6)
        self.assertEqual([at_beat(house, (0, 0), wish, t) for t in range(6)], [(0, 0), (0, 1), (1, 1), (1, 2), (2, 2), (2, 3)])
        self.assertEqual([beat_of(house, (0, 0), wish, "a", i) for i in range(4)], [0, 2, 4, 6])
        self.assertEqual([beat_of(house, (0, 0), wish, "b", i) for i in range(4)], [0, 1, 3, 5])

    def test_a_standing_of_all_is_not_enough(self):
        # a or b has to be at least 1: both may turn, but not in one beat.
        house = house_of([dial("a", 0, 1), dial("b", 0, 1)], ("one", ("a", "least", 1), ("b", "least", 1)))
        wish = (("a", "most", 0), ("b", "least", 1))
        self.assertEqual(walked(house, (1, 0), [("heave", (("a", 0), ("b", 1)))])[2], 2)
        self.assertEqual(quickest(house, (1, 0), wish), 2)
        self.assertEqual([at_beat(house, (1, 0), wish, t) for t in range(3)], [(1, 0), (1, 1), (0, 1)])

    def test_locks(self):
        # b stays below 3 till a is 5; c below 1 till b is 4.
        house = house_of([dial("a"), dial("b"), dial("c")], ("one", ("b", "most", 2), ("a", "least", 5)),
                         ("one", ("c", "most", 0), ("b", "least", 4)))
        wish = (("c", "least", 2),)
        self.assertEqual(quickest(house, (0, 0, 0), wish), 9)
        self.assertEqual([at_beat(house, (0, 0, 0), wish, t) for t in (2, 3, 5, 6, 7, 8, 9)],
                         [(2, 2, 0), (3, 2, 0), (5, 2, 0), (5, 3, 0), (5, 4, 0), (5, 4, 1), (5, 4, 2)])
        self.assertEqual([beat_of(house, (0, 0, 0), wish, "c", i) for i in (0, 1, 2)], [0, 8, 9])
        self.assertEqual(quickest(house, (5, 0, 0), wish), 6)

    def test_an_either_or_that_says_nothing(self):
        house = house_of([dial("a", 0, 99)], ("one", ("a", "most", 9), ("a", "least", 10)))
        self.assertEqual(quickest(house, (0,), (("a", "least", 50),)), 50)
        self.assertEqual(at_beat(house, (40,), (("a", "most", 2),), 33), (7,))

    def test_wishes_met_already(self):
        for wish in ((), (("a", "least", 1),), (("a", "least", -GREAT), ("c", "most", GREAT))):
            self.assertEqual(quickest(MIXED, MIXED_START, wish), 0)
            for t in (0, 1, 10 ** 59):
                self.assertEqual(at_beat(MIXED, MIXED_START, wish, t), MIXED_START)
            for name, number in zip("abcd", MIXED_START):
                self.assertEqual(beat_of(MIXED, MIXED_START, wish, name, number), 0)
                for other in (number - 1, number + 1):
                    with self.assertRaises(NoNumber):
                        beat_of(MIXED, MIXED_START, wish, name, other)

    def test_wide(self):
        house = wide_house(("off", "a", "b", 0), ("off", "b", "a", 1))
        here, wish = (-FAR, -FAR), (("a", "least", FAR),)
        self.assertEqual(quickest(house, here, wish), 4 * FAR)
        self.assertEqual(at_beat(house, here, wish, 4 * FAR - 1), (FAR - 1, FAR))
        self.assertEqual(at_beat(house, here, wish, 7), (3 - FAR, 4 - FAR))
        self.assertEqual(beat_of(house, here, wish, "b", 0), 2 * FAR - 1)
        for t in (4 * FAR, 4 * FAR + 1, 10 ** 59):
            self.assertEqual(at_beat(house, here, wish, t), (FAR, FAR))
        self.assertEqual(quickest(wide_house(), (-FAR, FAR), (("a", "least", FAR), ("b", "most", 0))), 2 * FAR)

    def test_wide_around_twelve_dials(self):
        rules = [("off", NAMES[k], NAMES[k + 1], 0) for k in range(11)] + [("off", "l", "a", 1)]
        # Locks far out, each of which opens long ahead of what it locks.
        rules += [("one", ("a", "most", k * 10 ** 16), ("l", "least", k * 10 ** 16 - 9)) for k in range(28)]
        house = wide_house(*rules, count=12)
        here, wish = (-FAR,) * 12, (("a", "least", FAR),)
        self.assertEqual(quickest(house, here, wish), 24 * FAR)
        self.assertEqual(at_beat(house, here, wish, 12 * FAR), (0,) * 12)
        self.assertEqual(at_beat(house, here, wish, 12 * FAR + 5), (0,) * 7 + (1,) * 5)
        self.assertEqual(beat_of(house, here, wish, "l", 1), 12 * FAR + 1)
        self.assertEqual(beat_of(house, here, wish, "a", FAR), 24 * FAR)

    def test_forty_locks(self):
        # Each time both are at a lock, one opens it for the other.
        rules = []
        for k in range(20):
            rules.append(("one", ("a", "most", 100 * k), ("b", "least", 100 * k + 50)))
            rules.append(("one", ("b", "most", 100 * k + 50), ("a", "least", 100 * k + 90)))
        house = wide_house(*rules)
        rows = plain_early(house, (0, 0), (2100, 1950))
        wish = (("a", "least", 2100),)
        self.assertEqual(nearest(house, (0, 0), wish)[0], rows[-1])
        self.assertEqual(quickest(house, (0, 0), wish), len(rows) - 1)
        for t in range(0, len(rows), 37):
            self.assertEqual(at_beat(house, (0, 0), wish, t), rows[t])
            for name, number in zip("ab", rows[t]):
                self.assertLessEqual(beat_of(house, (0, 0), wish, name, number), t)
        far = (("a", "least", FAR), ("b", "least", 7))
        self.assertEqual(quickest(house, (0, 0), far), FAR - 2100 + len(rows) - 1)


class Refusals(unittest.TestCase):
    gap = house_of([dial("a", 0, 99)], ("one", ("a", "most", 10), ("a", "least", 40)))

    def refused(self, error, call, *things):
        before = frozen(things)
        with self.subTest(call=call, things=repr(things)[:80]), self.assertRaises(error) as caught:
            call(*things)
        self.assertEqual(frozen(things), before)
        return caught.exception

    def test_in_their_order(self):
        wrong_house = (MIXED[0], MIXED[1][:2] + (("off", "a", "z", 0),))
        for call, rest in ((quickest, ()), (at_beat, (None,)), (beat_of, (None, None))):
            self.assertEqual(self.refused(NoHouse, call, wrong_house, None, None, *rest).fault, ("rule", 2))
            self.refused(NoStanding, call, MIXED, None, None, *rest)
            self.refused(NoWish, call, MIXED, MIXED_START, None, *rest)
            self.refused(Never, call, MIXED, MIXED_START, (("a", "least", 9),), *rest)
            self.refused(Never, call, self.gap, (3,), (("a", "least", 100),), *rest)
            told = self.refused(TooStrong, call, self.gap, (3,), (("a", "least", 11),), *rest)
            self.assertEqual(told.strength, 30)
        wish = (("a", "least", 5),)
        self.refused(NoDial, beat_of, MIXED, MIXED_START, wish, None, None)
        self.refused(NoNumber, beat_of, MIXED, MIXED_START, wish, "a", None)

    def test_anything_for_a_standing_and_a_wish(self):
        for thing in odd_things():
            for call, rest in ((quickest, ()), (at_beat, (-1,)), (beat_of, ("z", None))):
                self.refused(NoStanding, call, MIXED, thing, None, *rest)
                self.refused(NoWish, call, MIXED, MIXED_START, thing, *rest)

    def test_beats(self):
        wish = (("a", "least", 5),)
        for t in [*odd_things(), -(10 ** 30), "1", [1], (0,)]:
            if not (type(t) is int and t >= 0):
                for met in (wish, ()):
                    self.refused(NoBeat, at_beat, MIXED, MIXED_START, met, t)
        for t in (0, 1, 10 ** 59):
            at_beat(MIXED, MIXED_START, wish, t)

    def test_dials_and_numbers(self):
        wish = (("a", "least", 5),)
        for name in [*odd_things(), "e", "A", ["a"], 0]:
            if name != "a":
                self.refused(NoDial, beat_of, MIXED, MIXED_START, wish, name, 1)
        for number in [*odd_things(), 0, 6, "1", [1], (1,), 10 ** 30]:
            self.refused(NoNumber, beat_of, MIXED, MIXED_START, wish, "c", number)
            if number != 7:
                self.refused(NoNumber, beat_of, MIXED, MIXED_START, wish, "a", number)
        # A truth is no number, whatever it is equal to.
        self.assertEqual(beat_of(MIXED, MIXED_START, wish, "a", 1), 0)
        self.refused(NoNumber, beat_of, MIXED, MIXED_START, wish, "a", True)
        self.refused(NoNumber, beat_of, MIXED, MIXED_START, (("a", "most", 0),), "a", False)

    def test_nothing_is_changed(self):
        wish = (("a", "least", 5),)
        before = frozen((MIXED, MIXED_START, wish))
        told = [quickest(MIXED, MIXED_START, wish), at_beat(MIXED, MIXED_START, wish, 2), beat_of(MIXED, MIXED_START, wish, "a", 4)]
        self.assertEqual(told, [quickest(MIXED, MIXED_START, wish), at_beat(MIXED, MIXED_START, wish, 2),
                                beat_of(MIXED, MIXED_START, wish, "a", 4)])
        self.assertEqual([type(part) for part in told], [int, tuple, int])
        self.assertEqual(frozen((MIXED, MIXED_START, wish)), before)


if __name__ == "__main__":
    unittest.main()
