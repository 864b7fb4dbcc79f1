"""[16] to [18]: several wishes."""

import itertools
import random
import unittest

from plainly import Small, bound_house, otherwise, plain_bars_any, plain_bars_order, some_wish
from samples import FAR, GREAT, MIXED, MIXED_START, NAMES, dial, frozen, house_of, odd_things, wide_house

from pawldials.errors import NoDial, NoReason, NoWishes
from pawldials.nearest import nearest
from pawldials.orders import (ahead, any_order, bars_any, bars_order, cheapest, in_order, open_now, spared, till)

ALL = (in_order, any_order, ahead, spared, cheapest, open_now)


def locks(count, low=0, high=9):
    """Dials that turn up alone, and no rule."""
    return house_of([dial(name, low, high, "up") for name in NAMES[:count]])


def around(count):
    """Wishes each of which closes the next one's way: k + 1 has to come ahead of k, and so around."""
    return [((NAMES[(k + 1) % count], "least", 1), (NAMES[k], "most", 0)) for k in range(count)]


def cases(seed, count, wishes=4, **more):
    """So many tuples (small, standing, wishes)."""
    pick = random.Random(seed)
    while count:
        small = Small(bound_house(pick, **more))
        if len(small.standings) > 40:
            continue
        here = pick.choice(small.standings)
        yield small, here, [some_wish(pick, small, here, 2) for _ in range(pick.randint(1, wishes))]
        count -= 1


def tight_cases(seed, count):
    """As cases, with pawls alone and each wish met by just one standing, so that many are in each other's way."""
    pick = random.Random(seed)
    while count:
        small = Small(bound_house(pick, ways=("up", "down"), dials=(2, 4)))
        here = pick.choice(small.standings)
        if not 3 <= len(small.reach(here)) <= 40:
            continue
        wishes = []
        for _ in range(pick.randint(2, 4)):
            there = pick.choice(small.reach(here))
            sayings = [(name, sort, i) for name, i in zip(small.names, there) for sort in ("least", "most")]
            wishes.append(tuple(saying for saying in sayings if pick.random() < 0.6))
        yield small, here, wishes
        count -= 1


def both_cases(seed, count):
    yield from cases(seed, count)
    yield from tight_cases(seed + 1, count)


class Beside(unittest.TestCase):
    """Small houses, beside all orders and all standings."""

    def test_in_order(self):
        told = {}
        for small, here, wishes in both_cases(127, 350):
            answer = in_order(small.house, here, wishes)
            numbers = range(len(wishes))
            price = small.least_price(here, wishes, numbers)
            with self.subTest(house=small.house, here=here, wishes=wishes, answer=answer):
                if price is None:
                    n = next(n for n in numbers if small.least_price(here, wishes, range(n + 1)) is None)
                    self.assertEqual((type(answer), len(answer), *answer[:2]), (tuple, 3, "bar", n))
                    self.assertIs(plain_bars_order(small.house, here, wishes, answer), True)
                    self.assertIs(bars_order(small.house, here, wishes, answer), True)
                    if not small.goals(here, wishes[n]):
                        self.assertIn(answer[2][0], ("clash", "pawl"))
                else:
                    self.assertIs(type(answer), list)
                    self.assertEqual(sum(row[1] for row in answer), price)
                    for n, row in enumerate(answer):
                        self.assertEqual(row, nearest(small.house, answer[n - 1][0] if n else here, wishes[n]))
            word = "list" if price is not None else answer[2][0]
            told[word] = told.get(word, 0) + 1
        self.assertEqual(set(told), {"list", "clash", "pair"} | set(told) & {"pawl"})
        self.assertGreater(min(told.values()), 20)

    def test_any_order(self):
        told = {}
        for small, here, wishes in both_cases(131, 350):
            answer = any_order(small.house, here, wishes)
            orders = [order for order in itertools.permutations(range(len(wishes)))
                      if small.least_price(here, wishes, order) is not None]
            with self.subTest(house=small.house, here=here, wishes=wishes, answer=answer):
                if answer[0] == "order":
                    self.assertIs(type(answer[1]), list)
                    self.assertIn(tuple(answer[1]), orders)
                    self.assertIs(bars_any(small.house, here, wishes, answer), False)
                else:
                    self.assertEqual(orders, [])
                    self.assertIs(plain_bars_any(small.house, here, wishes, answer), True)
                    self.assertIs(bars_any(small.house, here, wishes, answer), True)
                    barred = [n for n, wish in enumerate(wishes) if not small.goals(here, wish)]
                    self.assertEqual(answer[0], "bar" if barred else "ring")
                    if barred:
                        self.assertEqual(answer[1], barred[0])
            told[answer[0]] = told.get(answer[0], 0) + 1
        self.assertEqual(set(told), {"order", "bar", "ring"})
        self.assertGreater(min(told.values()), 10)

    def test_ahead_and_spared(self):
        told = {"ahead": 0, "spared": 0, "none": 0}
        for small, here, wishes in both_cases(137, 350):
            count = range(len(wishes))
            if any(not small.goals(here, wish) for wish in wishes):
                for call in (ahead, spared):
                    with self.assertRaises(NoReason):
                        call(small.house, here, wishes)
                continue
            rows = [(n, m) for n in count for m in count if small.least_price(here, wishes, (m, n)) is None]
            self.assertEqual(ahead(small.house, here, wishes), rows)
            told["ahead"] += bool(rows)
            # Any order goes that keeps all of these.
            for order in itertools.permutations(count):
                kept = all(order.index(n) < order.index(m) for n, m in rows)
                self.assertIs(small.least_price(here, wishes, order) is not None, kept)
            if any_order(small.house, here, wishes)[0] == "order":
                told["none"] += 1
                with self.assertRaises(NoReason):
                    spared(small.house, here, wishes)
                continue
            left = []
            for k in count:
                others = [n for n in count if n != k]
                if any(small.least_price(here, wishes, order) is not None for order in itertools.permutations(others)):
                    left.append(k)
            self.assertEqual(spared(small.house, here, wishes), left)
            told["spared"] += 1
        self.assertGreater(min(told.values()), 10)

    def test_cheapest(self):
        told = {True: 0, False: 0}
        for small, here, wishes in both_cases(139, 250):
            prices = {}
            for order in itertools.permutations(range(len(wishes))):
                price = small.least_price(here, wishes, order)
                if price is not None:
                    prices.setdefault(price, []).append(list(order))
            answer = (min(prices), min(prices[min(prices)])) if prices else None
            self.assertEqual(cheapest(small.house, here, wishes), answer, (small.house, here, wishes))
            told[bool(prices)] += 1
        self.assertGreater(min(told.values()), 20)

    def test_the_greatest_strength_is_the_same_for_each_order(self):
        for small, here, wishes in both_cases(149, 120):
            found = set()
            for order in itertools.permutations(wishes):
                answer = in_order(small.house, here, list(order))
                if type(answer) is list:
                    found.add(max(row[2] for row in answer))
            self.assertLessEqual(len(found), 1, (small.house, here, wishes))

    def test_open_now(self):
        for small, here, wishes in both_cases(151, 250):
            good = [n for n, wish in enumerate(wishes) if small.goals(here, wish)]
            self.assertEqual(open_now(small.house, here, wishes), good)

    def test_till(self):
        told = {"up": 0, "down": 0, None: 0}
        for small, here, wishes in both_cases(157, 250):
            wish = wishes[0]
            for k, (name, _, _, way, *_) in enumerate(small.house[0]):
                if way == "both":
                    with self.assertRaises(NoDial):
                        till(small.house, here, wish, name)
                    continue
                left = [there[k] for there in small.reach(here) if small.goals(there, wish)]
                answer = (max(left) if way == "up" else min(left)) if left else None
                self.assertEqual(till(small.house, here, wish, name), answer, (small.house, here, wish, name))
                told[way if left else None] += 1
        self.assertGreater(min(told.values()), 20)


class Looker(unittest.TestCase):
    def check(self, made, looker, plain, least):
        """Each of these papers, and the same with one thing otherwise."""
        told = {True: 0, False: 0}
        for small, here, wishes, paper in made:
            for thing in [paper, *otherwise(paper)]:
                good = plain(small.house, here, wishes, thing)
                told[good] += 1
                self.assertIs(looker(small.house, here, wishes, thing), good, (small.house, here, wishes, thing))
        self.assertGreater(min(told.values()), least)

    def test_bars_of_an_order_with_one_thing_otherwise(self):
        made = []
        for small, here, wishes in tight_cases(163, 120):
            paper = in_order(small.house, here, wishes)
            if type(paper) is tuple and len(repr(paper)) < 500:
                made.append((small, here, wishes, paper))
        self.assertTrue(any(paper[2][0] == "pair" for *_, paper in made))
        self.check(made, bars_order, plain_bars_order, 100)

    def test_bars_of_any_order_with_one_thing_otherwise(self):
        made = []
        for small, here, wishes in both_cases(167, 250):
            paper = any_order(small.house, here, wishes)
            if paper[0] != "order" and len(repr(paper)) < 600:
                made.append((small, here, wishes, paper))
        self.assertTrue(any(paper[0] == "ring" for *_, paper in made))
        self.check(made, bars_any, plain_bars_any, 100)

    def test_what_is_let_by_holds(self):
        held = 0
        for small, here, wishes in tight_cases(173, 40):
            papers = [in_order(small.house, here, wishes), any_order(small.house, here, wishes)]
            for there in small.standings:
                goes = small.least_price(there, wishes, range(len(wishes))) is not None
                some = goes or any(small.least_price(there, wishes, order) is not None
                                   for order in itertools.permutations(range(len(wishes))))
                for paper in papers:
                    if bars_order(small.house, there, wishes, paper):
                        self.assertIs(goes, False)
                        held += 1
                    if bars_any(small.house, there, wishes, paper):
                        self.assertIs(some, False)
                        held += 1
        self.assertGreater(held, 100)

    def test_pairs_by_hand(self):
        house = house_of([dial("a", 0, 9, "up"), dial("b", 0, 9, "down"), dial("c", 0, 9)], ("off", "c", "a", 0))
        here = (2, 7, 1)
        wishes = [(("c", "least", 5),), (("a", "most", 4),), (("b", "most", 3),), (("b", "least", 4),)]
        five = [(("c", "least", 5), None), (("a", "least", 5), 0)]
        four = [(("a", "most", 4), None)]
        three, above = [(("b", "most", 3), None)], [(("b", "least", 4), None)]
        for n, m, chain, second, good in [
            (1, 0, five, four, True), (3, 2, three, above, True), (0, 1, four, five, False), (2, 3, above, three, False),
            (1, 1, five, four, False), (1, 0, five[:1], four, False), (1, 0, four, five, False), (3, 0, five, four, False),
            (1, -1, five, four, False), (1, False, five, four, False), (True, 0, five, four, False), (4, 0, five, four, False),
            (1, 0, [*five, (("a", "least", 4), -1)], four, False), (1, 0, five, [*four, (("a", "most", 5), -1)], False),
            (3, 0, three, above, False), (2, 1, three, above, False),
        ]:
            with self.subTest(n=n, m=m, chain=chain, second=second):
                self.assertIs(bars_order(house, here, wishes, ("bar", n, ("pair", m, chain, second))), good)
                self.assertIs(bars_any(house, here, wishes, ("bar", n, ("pair", m, chain, second))), False)
        self.assertEqual(in_order(house, here, wishes), ("bar", 1, ("pair", 0, five, four)))
        # A dial that turns both ways keeps nothing.
        low = [(("c", "most", 4), None)]
        both = [(("c", "least", 5),), (("c", "most", 4),)]
        self.assertIs(bars_order(house, here, both, ("bar", 1, ("pair", 0, five[:1], low))), False)
        self.assertEqual([row[0] for row in in_order(house, here, both)], [(5, 7, 5), (5, 7, 4)])

    def test_pairs_of_a_wish_with_itself_or_one_behind(self):
        house, here = locks(1), (0,)
        up, low = [(("a", "least", 5), None)], [(("a", "most", 4), None)]
        torn = (("a", "least", 5), ("a", "most", 4))
        for wishes, n, m, good in (([torn, torn], 1, 0, True), ([torn, torn], 1, 1, False), ([torn, torn], 0, 1, False),
                                   ([torn, torn], 0, 0, False), ([torn[:1], torn[1:]], 1, 0, True),
                                   ([torn[1:], torn[:1]], 0, 1, False)):
            with self.subTest(wishes=wishes, n=n, m=m):
                self.assertIs(bars_order(house, here, wishes, ("bar", n, ("pair", m, up, low))), good)
        for m, n, good in ((0, 1, True), (0, 0, False), (1, 1, False)):
            links = [(m, up, n, low), (n, up, m, low)]
            self.assertIs(bars_any(house, here, [torn, torn], ("ring", links)), good)

    def test_the_second_chain_ends_at_the_same_dial(self):
        # b at least 10 denies whatever there is; only a saying of a shows that a's pawl is in the way.
        house = house_of([dial("a", 0, 9, "up"), dial("b")], ("one", ("b", "most", 9), ("a", "most", 4)))
        wishes = [(("a", "least", 5),), (("b", "least", 10),)]
        up = [(("a", "least", 5), None)]
        lost = [(("b", "least", 10), None)]
        for second, good in ((lost, False), ([*lost, (("a", "most", 4), 0)], True), ([*lost, (("b", "least", 9), -1)], False)):
            self.assertIs(bars_order(house, (0, 0), wishes, ("bar", 1, ("pair", 0, up, second))), good)

    def test_rings_of_ten_and_eleven_links(self):
        house = locks(3)
        wishes = [tuple((name, "least" if name == own else "most", int(name == own)) for name in NAMES[:3])
                  for own in NAMES[:3]]
        for count, good in ((2, True), (3, True), (10, True), (11, False), (12, False)):
            path = [k % 2 for k in range(count)]
            if count % 2:
                path[-1] = 2
            links = []
            for m, n in zip(path, path[1:] + path[:1]):
                links.append((m, [((NAMES[m], "least", 1), None)], n, [((NAMES[m], "most", 0), None)]))
            self.assertIs(bars_any(house, (0, 0, 0), wishes, ("ring", links)), good)

    def test_rings_by_hand(self):
        house, wishes = locks(2), around(2)
        one = (0, [(("b", "least", 1), None)], 1, [(("b", "most", 0), None)])
        two = (1, [(("a", "least", 1), None)], 0, [(("a", "most", 0), None)])
        for links, good in (([one, two], True), ([two, one], True), ([one], False), ([one, one], False), ([], False),
                            ([one, two, one], False), ([one, two] * 2, True), ([one, two] * 5, True),
                            ([one, two] * 6, False), ((one, two), False), ([list(one), two], False), ([one, None], False),
                            ([one, (*two, None)], False), ([(0, one[1], 0, one[3]), two], False),
                            ([one, (True, *two[1:])], False), ([(False, *one[1:]), two], False),
                            ([one, (2, *two[1:])], False)):
            self.assertIs(bars_any(house, (0, 0), wishes, ("ring", links)), good)
            self.assertIs(bars_order(house, (0, 0), wishes, ("ring", links)), False)
        # A ring holds also where a wish can't be met alone.
        self.assertIs(bars_any(house, (3, 0), wishes, ("ring", [one, two])), True)
        self.assertEqual(any_order(house, (3, 0), wishes)[:2], ("bar", 0))

    def test_of_anything(self):
        house, wishes = locks(2), around(2)
        paper = ("bar", 0, ("clash", [(("a", "most", 0), None)]))
        for thing in [*odd_things(), paper, ("bar",), ("bar", 0), ("bar", 0, None), ("bar", None, None), ("ring", None),
                      ("ring", []), ("ring", [None, None]), ("ring", [(0, [], 1, [])] * 2), ("order", [0, 1]), ("bar", 0, ()),
                      ("bar", 0, ("pair",)), ("bar", 1, ("pair", 0, [], [])), ("bar", 1, ("pair", 0, None, {})),
                      ["ring", []], {"ring": []}, ("bar", [0], paper[2]), ("bar", {}, paper[2])]:
            self.assertIs(bars_order(house, (0, 0), wishes, thing), False)
            self.assertIs(bars_any(house, (0, 0), wishes, thing), False)


class ByHand(unittest.TestCase):
    def test_rings_of_two_to_ten_wishes(self):
        for count in range(2, 11):
            house, wishes = locks(count), around(count)
            here = (0,) * count
            told, links = any_order(house, here, wishes)
            self.assertEqual((told, len(links)), ("ring", count))
            self.assertIs(bars_any(house, here, wishes, (told, links)), True)
            self.assertEqual(ahead(house, here, wishes), sorted(((k + 1) % count, k) for k in range(count)))
            self.assertEqual(spared(house, here, wishes), list(range(count)))
            self.assertEqual(open_now(house, here, wishes), list(range(count)))
            self.assertEqual(in_order(house, here, wishes)[:2], ("bar", 1))
            for k in range(count):
                self.assertEqual(any_order(house, here, wishes[:k] + wishes[k + 1:])[0], "order")
            if count <= 5:
                self.assertIsNone(cheapest(house, here, wishes))

    def test_two_rings_spare_none(self):
        house = locks(4)
        second = [(("d", "least", 1), ("c", "most", 0)), (("c", "least", 1), ("d", "most", 0))]
        wishes = around(2) + second
        self.assertEqual(spared(house, (0,) * 4, wishes), [])
        self.assertEqual(spared(house, (0,) * 4, wishes[:3]), [0, 1])

    def test_ten_wishes_in_the_only_order(self):
        house = locks(1)
        wishes = [(("a", "least", k), ("a", "most", k)) for k in range(10)]
        mixed = [wishes[k] for k in (3, 9, 0, 7, 1, 8, 2, 6, 4, 5)]
        told, order = any_order(house, (0,), mixed)
        self.assertEqual((told, [mixed[n][0][2] for n in order]), ("order", list(range(10))))
        self.assertEqual(len(ahead(house, (0,), mixed)), 45)
        self.assertEqual([row for row in in_order(house, (0,), wishes)], [((0,), 0, 0)] + [((k,), 1, 1) for k in range(1, 10)])
        self.assertEqual(open_now(house, (4,), wishes), [4, 5, 6, 7, 8, 9])
        with self.assertRaises(NoReason):
            ahead(house, (4,), wishes)
        self.assertEqual(any_order(house, (4,), wishes)[:2], ("bar", 0))
        self.assertEqual(cheapest(house, (0,), [wishes[k] for k in (5, 1, 4, 2, 3)]), (5, [1, 3, 4, 2, 0]))

    def test_bars_of_in_order(self):
        house = house_of([dial("a", 0, 9, "up"), dial("b", 0, 9)], ("off", "a", "b", 0))
        wishes = [(("a", "least", 5),), (("b", "most", 4),)]
        pair = ("pair", 0, [(("a", "least", 5), None)], [(("b", "most", 4), None), (("a", "most", 4), 0)])
        self.assertEqual(in_order(house, (2, 2), wishes), ("bar", 1, pair))
        self.assertEqual(in_order(house, (2, 2), wishes[::-1]), [((2, 2), 0, 0), ((5, 5), 6, 1)])
        self.assertEqual(any_order(house, (2, 2), wishes), ("order", [1, 0]))
        self.assertEqual(ahead(house, (2, 2), wishes), [(1, 0)])
        pawl = ("pawl", [(("b", "most", 4), None), (("a", "most", 4), 0)])
        self.assertEqual(in_order(house, (5, 5), wishes), ("bar", 1, pawl))
        self.assertEqual(any_order(house, (5, 5), wishes), ("bar", 1, pawl))
        clash = [(("a", "least", 3),), (("a", "least", 3), ("b", "most", 2))]
        self.assertEqual(in_order(house, (0, 0), clash)[:2], ("bar", 1))
        self.assertEqual(in_order(house, (0, 0), clash)[2][0], "clash")

    def test_cheapest_takes_the_first_of_orders_as_cheap(self):
        house = house_of([dial("a", 0, 9, "both", 2, 3), dial("b", 0, 9, "both", 1, 1)])
        up, down, aside = (("a", "least", 4),), (("a", "most", 1),), (("b", "least", 2),)
        self.assertEqual(cheapest(house, (2, 0), [down, up]), (3 + 6, [0, 1]))
        self.assertEqual(cheapest(house, (2, 0), [up, down]), (9, [1, 0]))
        self.assertEqual(cheapest(house, (2, 0), [aside, up, down]), (11, [0, 2, 1]))
        self.assertEqual(cheapest(house, (2, 0), [()] * 5), (0, [0, 1, 2, 3, 4]))
        self.assertEqual(cheapest(house, (2, 0), [()]), (0, [0]))

    def test_till(self):
        house = house_of([dial("a", 0, 9, "up"), dial("b", 0, 9, "down"), dial("c", 0, 9), dial("d", 0, 9, "up")],
                         ("off", "a", "c", 2), ("most", "b", "c", 12))
        here = (1, 6, 3, 0)
        for wish, a, b, d in [((), 9, 0, 9), ((("c", "most", 4),), 6, 0, 9), ((("b", "least", 5),), 9, 5, 9),
                              ((("d", "most", 0),), 9, 0, 0), ((("a", "most", 1),), 1, 0, 9),
                              ((("c", "most", 0), ("d", "least", 9)), 2, 0, 9), ((("a", "most", 0),), None, None, None),
                              ((("b", "least", 7),), None, None, None), ((("c", "least", 10),), None, None, None)]:
            with self.subTest(wish=wish):
                self.assertEqual([till(house, here, wish, name) for name in "abd"], [a, b, d])
        for name in [*odd_things(), "c", "e", "", None, ("a",), ["a"], "A"]:
            if name != "a":
                for wish in ((), (("a", "most", 0),)):
                    with self.assertRaises(NoDial):
                        till(house, here, wish, name)

    def test_till_wide(self):
        rules = (("off", "a", "b", 0), ("one", ("b", "most", 5), ("c", "least", FAR)), ("most", "a", "d", FAR // 3))
        house = house_of([dial("a", -FAR, FAR, "up"), dial("b", -FAR, FAR), dial("c", -FAR, FAR),
                          dial("d", -FAR, FAR, "down")], *rules)
        here = (0, 0, 0, 0)
        self.assertEqual(till(house, here, (), "a"), FAR)
        self.assertEqual(till(house, here, (("c", "most", 7),), "a"), 5)
        self.assertEqual(till(house, here, (("d", "least", -9),), "a"), FAR // 3 + 9)
        self.assertEqual(till(house, here, (("a", "least", FAR),), "d"), -FAR)
        self.assertEqual(till(house, here, (("d", "least", -5),), "d"), -5)
        self.assertIsNone(till(house, here, (("a", "least", FAR), ("d", "least", 0)), "a"))

    def test_great_houses(self):
        pick = random.Random(179)
        told = {}
        for _ in range(60):
            dials = [dial(name, -FAR, FAR, pick.choice(["up", "down", "both"]), pick.randint(1, 10 ** 6)) for name in NAMES]
            rules = []
            for k in range(11):
                rules.append((pick.choice(["off", "most"]), NAMES[k], NAMES[k + 1], pick.randint(0, FAR)))
                rules.append(("one", (NAMES[k + 1], "most", pick.randint(0, FAR)), (NAMES[k], "least", 0)))
            house = house_of(dials, *rules)
            wishes = []
            for _ in range(pick.randint(2, 10)):
                names = pick.sample(NAMES, 2)
                wishes.append(tuple((name, pick.choice(["least", "most"]), pick.randint(-FAR, FAR)) for name in names))
            here = (0,) * 12
            answer = any_order(house, here, wishes)
            told[answer[0]] = told.get(answer[0], 0) + 1
            if answer[0] == "order":
                rows = in_order(house, here, [wishes[n] for n in answer[1]])
                self.assertIs(type(rows), list)
            else:
                self.assertIs(bars_any(house, here, wishes, answer), True)
            rows = in_order(house, here, wishes)
            self.assertTrue(type(rows) is list or bars_order(house, here, wishes, rows))
            good = open_now(house, here, wishes)
            self.assertEqual(good, [n for n, wish in enumerate(wishes) if nearest(house, here, wish) is not None])
            left = [wishes[n] for n in good][:5]
            if left:
                self.assertIs(cheapest(house, here, left) is None, any_order(house, here, left)[0] == "ring")
        self.assertGreater(told["bar"], 0)


class Refusals(unittest.TestCase):
    def test_wishes(self):
        good = (("a", "least", 2),)
        wrong = [*odd_things(), [], [good] * 11, (good,), good, [good, None], [list(good)], [good, (("e", "least", 1),)],
                 [(("a", "least", True),)], [good[0]], {0: good}, [(("a", "least", GREAT + 1),)], [good * 21]]
        # Two empty wishes are wishes.
        for wishes in [thing for thing in wrong if thing != [(), ()]]:
            for call in ALL:
                with self.subTest(call=call.__name__, wishes=repr(wishes)[:60]), self.assertRaises(NoWishes):
                    call(MIXED, MIXED_START, wishes)
            for call in (bars_order, bars_any):
                with self.assertRaises(NoWishes):
                    call(MIXED, MIXED_START, wishes, None)

    def test_one_and_ten_wishes(self):
        good = (("a", "least", 2),)
        for wishes in ([good], [good] * 5, [good] * 6, [good] * 10, [()] * 10, [good * 20]):
            self.assertEqual(len(in_order(MIXED, MIXED_START, wishes)), len(wishes))
            self.assertEqual(any_order(MIXED, MIXED_START, wishes), ("order", list(range(len(wishes)))))
            self.assertEqual(ahead(MIXED, MIXED_START, wishes), [])
            self.assertEqual(open_now(MIXED, MIXED_START, wishes), list(range(len(wishes))))
            self.assertIs(bars_order(MIXED, MIXED_START, wishes, None), False)
            self.assertIs(bars_any(MIXED, MIXED_START, wishes, None), False)
            if len(wishes) <= 5:
                self.assertEqual(cheapest(MIXED, MIXED_START, wishes)[1], list(range(len(wishes))))
            else:
                with self.assertRaises(NoWishes):
                    cheapest(MIXED, MIXED_START, wishes)

    def test_no_reason(self):
        for call in (ahead, spared):
            with self.assertRaises(NoReason):
                call(MIXED, MIXED_START, [(), (("a", "least", 9),)])
        with self.assertRaises(NoReason):
            spared(MIXED, MIXED_START, [()])

    def test_nothing_is_changed_and_all_is_new(self):
        house, wishes = locks(3), around(3)
        here = (0, 0, 0)
        before = frozen((house, wishes))
        for call in (in_order, any_order, ahead, spared, open_now):
            told = call(house, here, wishes)
            again = frozen(told)
            for part in every_list(told):
                part.clear()
            self.assertEqual(frozen(call(house, here, wishes)), again, call.__name__)
        told = cheapest(house, here, wishes[:2])
        told[1].clear()
        self.assertEqual(cheapest(house, here, wishes[:2]), (2, [1, 0]))
        paper = any_order(house, here, wishes)
        again = frozen(paper)
        self.assertIs(bars_any(house, here, wishes, paper), True)
        self.assertIs(bars_order(house, here, wishes, in_order(house, here, wishes)), True)
        self.assertEqual(frozen(paper), again)
        self.assertEqual(frozen((house, wishes)), before)

    def test_no_list_is_told_twice(self):
        for count in (2, 5, 10):
            lists = every_list(any_order(locks(count), (0,) * count, around(count)))
            self.assertEqual(len(lists), len({id(part) for part in lists}))


def every_list(thing):
    """All lists in it, the innermost first."""
    if not isinstance(thing, (list, tuple)):
        return []
    inner = [part for each in thing for part in every_list(each)]
    return inner + [thing] if isinstance(thing, list) else inner


if __name__ == "__main__":
    unittest.main()
