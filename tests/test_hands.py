"""[20] hands that meet, and pawls that keep two of them apart; [2] and [3] with them."""

import random
import unittest

from plainly import is_int, is_tuple, otherwise, plain_chain, plain_denies, small_cases
from samples import (FAR, MIXED, MIXED_START, NAMES, dial, frozen, house_of, odd_things, places_between, plain_can_turn,
                     wide_house)

from pawldials.errors import NoHands, NoHouse
from pawldials.hands import meeting, no_meeting
from pawldials.houses import is_standing
from pawldials.nearest import nearest


def plain_meeting(small, hands):
    """The numbers and the sum, by going through all standings; None where no one can be come to by all."""
    common = [there for there in small.standings if all(there in small.reach(here) for here, _ in hands)]
    if not common:
        return None
    sums = {there: sum(weight * places_between(here, there) for here, weight in hands) for there in common}
    least = min(sums.values())
    best = [there for there in common if sums[there] == least]
    fewest = min(places_between(hands[0][0], there) for there in best)
    [numbers] = [there for there in best if places_between(hands[0][0], there) == fewest]
    return (numbers, least)


def plain_pair(small, hands):
    """The first two hands with no standing to which both can go."""
    for m, (one, _) in enumerate(hands):
        for n, (other, _) in enumerate(hands):
            if m < n and not set(small.reach(one)) & set(small.reach(other)):
                return (m, n)
    return None


def plain_kept(house, numbers):
    words = {"up": "least", "down": "most"}
    return [(row[0], words[row[3]], i) for row, i in zip(house[0], numbers) if row[3] != "both"]


def plain_no_meeting(house, hands, thing):
    if not is_tuple(thing, 3):
        return False
    m, n, chain = thing
    if not is_int(m) or not is_int(n) or not 0 <= m < n < len(hands) or not plain_chain(house, chain):
        return False
    kept = plain_kept(house, hands[m][0]) + plain_kept(house, hands[n][0])
    return chain[0][0] in kept and any(plain_denies(house, chain[-1][0], saying) for saying in kept)


def hand_cases(seed, count, **more):
    """So many tuples (small, hands)."""
    pick = random.Random(seed)
    for small, _, _ in small_cases(seed, count, **more):
        weights = [1, 1, 1, 2, 3, pick.randint(1, 9), 10 ** 6]
        yield small, [(pick.choice(small.standings), pick.choice(weights)) for _ in range(pick.randint(1, 9))]


class SmallHouses(unittest.TestCase):
    def look(self, small, hands):
        answer = meeting(small.house, hands)
        good = plain_meeting(small, hands)
        with self.subTest(house=small.house, hands=hands):
            if good is not None:
                self.assertEqual(answer, good)
                return "met"
            self.assertEqual((len(answer), answer[:2]), (3, plain_pair(small, hands)))
            self.assertIs(plain_no_meeting(small.house, hands, answer), True)
            self.assertIs(no_meeting(small.house, hands, answer), True)
            return "apart"

    def test_beside_all_standings(self):
        told = {"met": 0, "apart": 0}
        for ways, seed in ((("both", "up", "down"), 307), (("both",), 311), (("both", "both", "both", "up"), 313)):
            for small, hands in hand_cases(seed, 250, ways=ways):
                told[self.look(small, hands)] += 1
        self.assertGreater(min(told.values()), 10)

    def test_pawls_alone(self):
        told = {"met": 0, "apart": 0}
        for small, hands in hand_cases(317, 250, ways=("up", "down"), dials=(2, 4)):
            told[self.look(small, hands)] += 1
        self.assertGreater(min(told.values()), 30)

    def test_sums_that_several_standings_have(self):
        """Two hands of the same weight: everything between them is as good, and the first stays where it is."""
        for small, hands in hand_cases(331, 200, ways=("both",)):
            pair = [(hands[0][0], 7), (hands[-1][0], 7)]
            self.assertEqual(meeting(small.house, pair), (pair[0][0], 7 * places_between(pair[0][0], pair[1][0])))
            self.assertEqual(meeting(small.house, pair[::-1])[0], pair[1][0])

    def test_one_hand_stays(self):
        for small, hands in hand_cases(337, 60):
            self.assertEqual(meeting(small.house, hands[:1]), (hands[0][0], 0))
            self.assertEqual(meeting(small.house, hands[:1] * 9), (hands[0][0], 0))

    def test_of_the_same_with_one_thing_otherwise(self):
        told = {True: 0, False: 0}
        papers = 0
        for small, hands in hand_cases(347, 2000, ways=("up", "down"), dials=(2, 4)):
            answer = meeting(small.house, hands)
            if len(answer) == 2 or papers == 40:
                continue
            papers += 1
            for thing in otherwise(answer):
                good = plain_no_meeting(small.house, hands, thing)
                told[good] += 1
                self.assertIs(no_meeting(small.house, hands, thing), good, (small.house, hands, thing))
                if good:
                    both = [set(small.reach(hands[k][0])) for k in thing[:2]]
                    self.assertEqual(both[0] & both[1], set())
        self.assertEqual(papers, 40)
        self.assertGreater(min(told.values()), 40)

    def test_what_is_let_by_holds_of_each_pair(self):
        """The chain of one pair held up against all others."""
        held = 0
        for small, hands in hand_cases(349, 300, ways=("up", "down"), dials=(2, 4)):
            answer = meeting(small.house, hands)
            if len(answer) == 3:
                for m in range(-1, len(hands) + 1):
                    for n in range(-1, len(hands) + 1):
                        thing = (m, n, answer[2])
                        good = plain_no_meeting(small.house, hands, thing)
                        self.assertIs(no_meeting(small.house, hands, thing), good)
                        if good:
                            held += 1
                            self.assertEqual(set(small.reach(hands[m][0])) & set(small.reach(hands[n][0])), set())
        self.assertGreater(held, 50)


class ByHand(unittest.TestCase):
    row = house_of([dial("a", 0, 99)])

    def test_weights(self):
        for weights, number, total in (((1, 1, 1), 20, 10 + 79), ((2, 1, 1), 10, 10 + 89), ((3, 1, 1), 10, 10 + 89),
                                       ((1, 1, 2), 20, 10 + 2 * 79), ((1, 1, 3), 99, 89 + 79),
                                       ((10 ** 6, 1, 10 ** 6 - 1), 10, 10 + 89 * (10 ** 6 - 1)),
                                       ((1, 10 ** 6 - 1, 10 ** 6), 20, 10 + 79 * 10 ** 6),
                                       ((1, 10 ** 6 - 2, 10 ** 6), 99, 89 + 79 * (10 ** 6 - 2))):
            hands = [((i,), weight) for i, weight in zip((10, 20, 99), weights)]
            self.assertEqual(meeting(self.row, hands), ((number,), total), weights)

    def test_the_weight_of_half(self):
        hands = [((10,), 2), ((50,), 1), ((70,), 1)]
        self.assertEqual(meeting(self.row, hands), ((10,), 100))
        self.assertEqual(meeting(self.row, [hands[1], hands[0], hands[2]]), ((50,), 100))
        self.assertEqual(meeting(self.row, [hands[2], hands[0], hands[1]]), ((50,), 100))

    def test_pawls_that_let_them_meet(self):
        house = house_of([dial("a", 0, 9, "up"), dial("b", 0, 9, "down"), dial("c", 0, 9)], ("off", "a", "c", 0))
        hands = [((1, 9, 1), 5), ((4, 3, 4), 1), ((2, 8, 7), 1)]
        self.assertEqual(meeting(house, hands), ((4, 3, 4), 5 * (3 + 6 + 3) + 2 + 5 + 3))

    def test_pawls_that_keep_two_apart(self):
        # a up alone, b down alone, a at most b: whoever has a at 5 needs b at 5 at least.
        house = house_of([dial("a", 0, 9, "up"), dial("b", 0, 9, "down"), dial("c", 0, 9)], ("off", "a", "b", 0))
        hands = [((0, 4, 0), 1), ((4, 4, 9), 1), ((5, 6, 0), 1), ((6, 6, 0), 1)]
        answer = meeting(house, hands)
        self.assertEqual(answer[:2], (0, 2))
        up = [(("a", "least", 5), None), (("b", "least", 5), 0)]
        down = [(("b", "most", 4), None), (("a", "most", 4), 0)]
        self.assertIn(answer[2], (up, down))
        for chain in (up, down):
            for pair, good in (((0, 2), True), ((1, 2), True), ((0, 1), False), ((2, 3), False), ((2, 0), False),
                               ((0, 3), chain == down), ((2, 2), False), ((0, 4), False)):
                self.assertIs(no_meeting(house, hands, (*pair, chain)), good, (pair, chain))
        six = [(("a", "least", 6), None), (("b", "least", 6), 0)]
        self.assertIs(no_meeting(house, hands, (0, 3, six)), True)
        self.assertIs(no_meeting(house, hands, (0, 2, six)), False)
        # What no pawl keeps begins no chain, and is denied in vain.
        for chain in ([(("c", "least", 10), None)], [(("c", "most", 0), None)], [(("a", "most", 0), None)], up[:1], up[1:], []):
            self.assertIs(no_meeting(house, hands, (0, 2, chain)), False)
        self.assertIs(no_meeting(house, hands, (False, 2, up)), False)
        self.assertIs(no_meeting(house, hands, (0, True, up)), False)
        self.assertIs(no_meeting(house, hands, [0, 2, up]), False)
        self.assertIs(no_meeting(house, hands, (0, 2, tuple(up))), False)
        self.assertIs(no_meeting(house, hands, (0, 2, up, None)), False)
        for thing in odd_things():
            self.assertIs(no_meeting(house, hands, thing), False)

    def test_great_houses(self):
        pick = random.Random(353)
        told = {2: 0, 3: 0}
        for _ in range(60):
            dials = [dial(name, -FAR, FAR, pick.choice(["up", "down", "both"])) for name in NAMES]
            rules = []
            for k in range(11):
                rules.append((pick.choice(["off", "most"]), NAMES[k], NAMES[k + 1], pick.randint(0, FAR)))
                rules.append(("one", (NAMES[k + 1], "most", pick.randint(0, FAR)), (NAMES[k], "least", 0)))
            house = house_of(dials, *rules)
            free = house_of([dial(name, -FAR, FAR) for name in NAMES], *rules)
            hands = []
            for _ in range(pick.randint(1, 9)):
                wish = tuple((name, pick.choice(["least", "most"]), pick.randint(-FAR, FAR)) for name in pick.sample(NAMES, 4))
                answer = nearest(free, (0,) * 12, wish)
                if answer is not None:
                    hands.append((answer[0], pick.randint(1, 10 ** 6)))
            if not hands:
                continue
            answer = meeting(house, hands)
            told[len(answer)] += 1
            if len(answer) == 3:
                self.assertIs(no_meeting(house, hands, answer), True)
                continue
            self.assertIs(is_standing(house, answer[0]), True)
            self.assertEqual(answer[1], self.sum_at(answer[0], hands))
            for here, _ in hands:
                self.assertTrue(plain_can_turn(house, here, answer[0]))
                # No standing that a hand has to go through anyway is better.
                exact = tuple(plain_kept(house, answer[0]))
                self.assertLessEqual(answer[1], self.sum_at(nearest(house, here, exact)[0], hands))
        self.assertGreater(min(told.values()), 5)

    def sum_at(self, there, hands):
        return sum(weight * places_between(here, there) for here, weight in hands)

    def test_wide_sums(self):
        house = wide_house(("most", "a", "b", 0))
        hands = [((-FAR, FAR), 10 ** 6)] + [((FAR, -FAR), 10 ** 6)] * 8
        self.assertEqual(meeting(house, hands), ((FAR, -FAR), 4 * FAR * 10 ** 6))
        self.assertEqual(meeting(house, hands[:2]), ((-FAR, FAR), 4 * FAR * 10 ** 6))


class Refusals(unittest.TestCase):
    good = (MIXED_START, 1)

    def refused(self, error, *things):
        for call in (meeting, lambda house, hands: no_meeting(house, hands, (0, 1, []))):
            before = frozen(things)
            with self.subTest(things=repr(things)[:80]), self.assertRaises(error) as caught:
                call(*things)
            self.assertEqual(frozen(things), before)
        return caught.exception

    def test_no_hands(self):
        wrong = [*odd_things(), [], [self.good] * 10, (self.good,), self.good, [self.good, None], [list(self.good)],
                 [(MIXED_START,)], [(MIXED_START, 1, 1)], [(list(MIXED_START), 1)], [(MIXED_START[:3], 1)],
                 [((9, 0, 2, 3), 1)], [((True, 0, 2, 3), 1)], [((99, 0, 2, 3), 1)], {0: self.good}]
        wrong += [[self.good, (MIXED_START, weight)] for weight in (0, -1, 10 ** 6 + 1, True, None, "1", [1], 10 ** 59)]
        for hands in wrong:
            self.refused(NoHands, MIXED, hands)

    def test_one_and_nine_hands_and_the_ends_of_weights(self):
        for count in (1, 9):
            for weight in (1, 10 ** 6):
                self.assertEqual(meeting(MIXED, [(MIXED_START, weight)] * count), (MIXED_START, 0))

    def test_the_house_goes_first(self):
        self.assertEqual(self.refused(NoHouse, None, None).fault, ("house",))
        self.assertEqual(self.refused(NoHouse, (MIXED[0], (None,)), []).fault, ("rule", 0))
        self.assertEqual(self.refused(NoHouse, (MIXED[0][:1] * 2, ()), [self.good]).fault, ("dial", 1))

    def test_nothing_is_changed_and_all_is_new(self):
        house = house_of([dial("a", 0, 9, "up"), dial("b", 0, 9, "down")], ("off", "a", "b", 0))
        hands = [((0, 4), 1), ((5, 6), 2)]
        before = frozen((house, hands))
        answer = meeting(house, hands)
        again = frozen(answer)
        self.assertIs(no_meeting(house, hands, answer), True)
        self.assertEqual(frozen(answer), again)
        answer[2].clear()
        self.assertEqual(frozen(meeting(house, hands)), again)
        self.assertEqual(frozen((house, hands)), before)


if __name__ == "__main__":
    unittest.main()
