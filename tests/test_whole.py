"""[1] and [4] the whole: an order with its least price and strength, or a paper that bars every walk; all parts agree."""

import random
import unittest

from plainly import Small, plain_bars_any, small_cases, some_wish
from samples import FAR, NAMES, dial, house_of

from pawldials.beats import at_beat, beat_of, quickest
from pawldials.chains import is_chain
from pawldials.desk import Desk
from pawldials.errors import Never, TooLong, TooStrong, Weak
from pawldials.forgetting import forgotten
from pawldials.hands import meeting, no_meeting
from pawldials.heaving import heaves
from pawldials.houses import is_standing, meets
from pawldials.keepers import Keeper
from pawldials.nearest import bars, nearest, reason, why
from pawldials.orders import any_order, bars_any, in_order
from pawldials.ruling import alike, follows
from pawldials.texts import read_chain, read_house, show_chain, show_house
from pawldials.walks import walked
from pawldials.weakness import bars_weak, weak


def great_cases(seed, count):
    """Tuples (house, standing, wishes) with far numbers, either-ors and pawls."""
    pick = random.Random(seed)
    for _ in range(count):
        ways = [pick.choice(["up", "down", "both", "both"]) for _ in NAMES]
        rules = []
        for k in range(11):
            rules.append((pick.choice(["off", "most"]), NAMES[k], NAMES[k + 1], pick.randint(0, FAR)))
            rules.append(("one", (NAMES[k + 1], "most", pick.randint(0, FAR)), (NAMES[k], "least", pick.randint(0, 9))))
        here = (0,) * 12
        wishes = []
        for _ in range(pick.randint(1, 4)):
            name = pick.choice(NAMES)
            sort = {"up": "least", "down": "most"}.get(ways[NAMES.index(name)], pick.choice(["least", "most"]))
            wishes.append(((name, sort, pick.randint(0, FAR // 2) * (1 if sort == "least" else -1)),))
        yield house_of([dial(name, -FAR, FAR, way, 3, 2) for name, way in zip(NAMES, ways)], *rules), here, wishes


class Whole(unittest.TestCase):
    def look(self, house, here, wishes):
        """Look at all that is told of these wishes; the word of what is told."""
        answer = any_order(house, here, wishes)
        keeper = Keeper(house, here, 10 ** 30)
        keeper.do(("earn", 10 ** 40))
        if answer[0] != "order":
            self.assertIs(bars_any(house, here, wishes, answer), True)
            return answer[0]
        rows = in_order(house, here, [wishes[n] for n in answer[1]])
        for n, (numbers, price, strength) in zip(answer[1], rows):
            stand, paid = keeper.stand_now(), keeper.paid_now()
            self.look_at_wish(house, stand, wishes[n], (numbers, price, strength))
            keeper.do(("meet", wishes[n]))
            self.assertEqual((keeper.stand_now(), keeper.paid_now()), (numbers, paid + price))
            self.assertIs(meets(house, numbers, wishes[n]), True)
        return answer[0]

    def look_at_wish(self, house, here, wish, row):
        numbers, price, strength = row
        self.assertEqual(nearest(house, here, wish), row)
        self.assertIs(is_standing(house, numbers), True)
        try:
            self.assertEqual(walked(house, here, heaves(house, here, wish)), row)
        except TooLong:
            pass
        for name, a, b in zip([one[0] for one in house[0]], here, numbers):
            if a != b:
                chain = reason(house, here, wish, name)
                self.assertIs(is_chain(house, read_chain(show_chain(chain))), True)
        if strength:
            self.assertIs(bars_weak(house, here, wish, strength - 1, weak(house, here, wish, strength - 1)), True)
        if strength > 1:
            with self.assertRaises(TooStrong):
                quickest(house, here, wish)
            with self.assertRaises(Weak) as caught:
                Keeper(house, here, strength - 1).do(("meet", wish))
            self.assertEqual(caught.exception.strength, strength)
        else:
            self.look_at_beats(house, here, wish, numbers)

    def look_at_beats(self, house, here, wish, numbers):
        beats = quickest(house, here, wish)
        self.assertEqual(at_beat(house, here, wish, beats), numbers)
        ends = [beat_of(house, here, wish, one[0], number) for one, number in zip(house[0], numbers)]
        self.assertEqual(max(ends), beats)
        for t in {0, 1, beats // 2, max(0, beats - 1)}:
            stand = at_beat(house, here, wish, t)
            self.assertIs(is_standing(house, stand), True)
            self.assertIs(stand == numbers, t >= beats)
            for one, number in zip(house[0], stand):
                self.assertLessEqual(beat_of(house, here, wish, one[0], number), t)

    def test_small_houses(self):
        pick = random.Random(907)
        told = {}
        for small, here, _ in small_cases(907, 250, ways=("up", "down", "both")):
            wishes = [some_wish(pick, small, here, 2) for _ in range(pick.randint(1, 4))]
            with self.subTest(house=small.house, here=here, wishes=wishes):
                word = self.look(small.house, here, wishes)
                told[word] = told.get(word, 0) + 1
                if word != "order":
                    self.assertIs(plain_bars_any(small.house, here, wishes, any_order(small.house, here, wishes)), True)
                    self.assertIsNone(small.least_price(here, wishes, range(len(wishes))))
        self.assertGreater(min(told["order"], told["bar"]), 20)

    def test_great_houses(self):
        told = {}
        for house, here, wishes in great_cases(911, 60):
            word = self.look(house, here, wishes)
            told[word] = told.get(word, 0) + 1
        self.assertGreater(min(told["order"], told["bar"]), 3)

    def test_each_no_has_a_paper(self):
        for small, here, wish in small_cases(919, 250):
            if nearest(small.house, here, wish) is None:
                self.assertIs(bars(small.house, here, wish, why(small.house, here, wish)), True)
                with self.assertRaises(Never):
                    Keeper(small.house, here, 9).do(("meet", wish))

    def test_texts_tell_the_same_house(self):
        for small, here, wish in small_cases(929, 80):
            house = read_house(show_house(small.house))
            self.assertIsNone(alike(house, small.house))
            desk = Desk()
            desk.say("house\n" + show_house(house))
            desk.say("keeper 1 " + " ".join(map(str, here)))
            answer = nearest(house, here, wish)
            if answer is not None and answer[2] <= 1:
                sayings = "".join(f" {name}{'>=' if sort == 'least' else '<='}{i}" for name, sort, i in wish)
                self.assertEqual(desk.say("beats" + sayings), str(quickest(house, here, wish)))

    def test_what_is_left_follows(self):
        """The rules of a house without a dial follow from the house with it."""
        for small, here, _ in small_cases(937, 80, dials=(2, 4)):
            for name in small.names:
                left = forgotten(small.house, name)
                for rule in left[1]:
                    self.assertIsNone(follows(small.house, rule))
                self.assertEqual(len(Small(left).standings) > 0, len(small.standings) > 0)

    def test_two_hands_meet_or_are_kept_apart(self):
        pick = random.Random(941)
        for small, here, _ in small_cases(941, 150, ways=("up", "down")):
            hands = [(here, 1), (pick.choice(small.standings), 2)]
            answer = meeting(small.house, hands)
            if len(answer) == 3:
                self.assertIs(no_meeting(small.house, hands, answer), True)
            for numbers, _ in hands if len(answer) == 2 else ():
                # In small houses a wish can say all numbers at once.
                wish = tuple((name, sort, i) for name, i in zip(small.names, answer[0]) for sort in ("least", "most"))
                self.assertEqual(nearest(small.house, numbers, wish)[0], answer[0])


if __name__ == "__main__":
    unittest.main()
