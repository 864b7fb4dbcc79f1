"""What DOC.md says of chains, papers and walks, done the plain way: by its words, and by going through all numbers."""

import itertools
import random

from samples import GREAT, NAMES, places_between, plain_can_turn, plain_holds, plain_rule_holds, plain_standings


def is_int(thing):
    return type(thing) is int


def is_list(thing, least, most):
    return type(thing) is list and least <= len(thing) <= most


def is_tuple(thing, count):
    return type(thing) is tuple and len(thing) == count


def names_of(house):
    return [row[0] for row in house[0]]


def dial_of(house, name):
    return [row for row in house[0] if row[0] == name][0]


def opposite(saying):
    """The saying that holds just where this one doesn't."""
    name, sort, i = saying
    return (name, "most", i - 1) if sort == "least" else (name, "least", i + 1)


# Lookers. Spans are small here: they are gone through number by number.

def fitting(house, saying):
    _, low, high, *_ = dial_of(house, saying[0])
    return {i for i in range(low, high + 1) if plain_holds(saying, {saying[0]: i})}


def plain_denies(house, one, other):
    mine = fitting(house, one)
    return not mine or (one[0] == other[0] and not mine & fitting(house, other))


def plain_gives(one, other):
    if one[0] != other[0] or one[1] != other[1]:
        return False
    return other[2] <= one[2] if one[1] == "least" else one[2] <= other[2]


def plain_given(house, rule, saying):
    if rule[0] == "one":
        _, p, q = rule
        return [told for denied, told in ((p, q), (q, p)) if plain_denies(house, saying, denied)]
    word, a, b, c = rule
    name, sort, i = saying
    table = {
        ("off", a, "least"): (b, "least", i - c), ("off", b, "most"): (a, "most", i + c),
        ("most", a, "least"): (b, "most", c - i), ("most", b, "least"): (a, "most", c - i),
        ("least", a, "most"): (b, "least", c - i), ("least", b, "most"): (a, "least", c - i),
    }
    told = table.get((word, name, sort))
    return [] if told is None else [told]


def plain_saying(house, thing):
    if not is_tuple(thing, 3) or type(thing[0]) is not str or thing[0] not in names_of(house):
        return False
    return type(thing[1]) is str and thing[1] in ("least", "most") and is_int(thing[2]) and abs(thing[2]) <= GREAT


def plain_chain(house, thing):
    if not is_list(thing, 1, 2000):
        return False
    ahead = None
    for link in thing:
        if not is_tuple(link, 2) or not plain_saying(house, link[0]):
            return False
        saying, by = link
        if ahead is None:
            if by is not None:
                return False
        elif not is_int(by) or not -1 <= by < len(house[1]):
            return False
        else:
            told = [ahead] if by == -1 else plain_given(house, house[1][by], ahead)
            if not any(plain_gives(one, saying) for one in told):
                return False
        ahead = saying
    return True


def plain_bars_all(house, thing):
    if is_tuple(thing, 2) and thing[0] == "circle" and plain_chain(house, thing[1]):
        first, last = thing[1][0][0], thing[1][-1][0]
        if any(by >= 0 and house[1][by][0] == "one" for _, by in thing[1][1:]):
            return False
        return plain_gives(last, first) and last != first
    if is_tuple(thing, 3) and thing[0] == "chains":
        _, chain, second = thing
        if not plain_chain(house, chain) or not plain_chain(house, second):
            return False
        start, other = chain[0][0], second[0][0]
        if not plain_denies(house, chain[-1][0], start) or not plain_denies(house, second[-1][0], other):
            return False
        if start[0] != other[0] or not plain_denies(house, other, start):
            return False
        _, low, high, *_ = dial_of(house, start[0])
        return fitting(house, start) | fitting(house, other) == set(range(low, high + 1))
    return False


def from_wish(house, wish, thing):
    return plain_chain(house, thing) and thing[0][0] in wish


def plain_bars(house, standing, wish, thing):
    if not is_tuple(thing, 2) or not from_wish(house, wish, thing[1]):
        return False
    last = thing[1][-1][0]
    if thing[0] == "clash":
        return any(plain_denies(house, last, saying) for saying in wish)
    if thing[0] == "pawl":
        name, low, high, way, *_ = dial_of(house, last[0])
        here = standing[names_of(house).index(name)]
        left = {"up": range(here, high + 1), "down": range(low, here + 1)}.get(way)
        return left is not None and not any(plain_holds(last, {name: i}) for i in left)
    return False


def plain_bars_weak(house, standing, wish, strength, thing):
    if not is_tuple(thing, 2) or not from_wish(house, wish, thing[0]):
        return False
    chain, rounds = thing
    last = chain[-1][0]
    if plain_holds(last, dict(zip(names_of(house), standing))) or not is_list(rounds, 1, 24):
        return False
    numbers = {}
    for one in rounds:
        if not plain_chain(house, one) or one[0][0] != last or not plain_gives(one[-1][0], last):
            return False
        for saying, _ in one:
            numbers.setdefault(saying[:2], []).append(saying[2])
    return sum(max(row) - min(row) + 1 for row in numbers.values()) > strength


def plain_pair(house, wish, behind, chain, second):
    if not from_wish(house, wish, chain) or not from_wish(house, behind, second):
        return False
    name, sort, _ = chain[-1][0]
    if (dial_of(house, name)[3], sort) not in (("up", "least"), ("down", "most")):
        return False
    return second[-1][0][0] == name and plain_denies(house, second[-1][0], chain[-1][0])


def is_number_of(wishes, thing):
    return is_int(thing) and 0 <= thing < len(wishes)


def plain_bars_alone(house, standing, wishes, thing):
    if not is_tuple(thing, 3) or thing[0] != "bar" or not is_number_of(wishes, thing[1]):
        return False
    return plain_bars(house, standing, wishes[thing[1]], thing[2])


def plain_bars_order(house, standing, wishes, thing):
    if plain_bars_alone(house, standing, wishes, thing):
        return True
    if not is_tuple(thing, 3) or thing[0] != "bar" or not is_number_of(wishes, thing[1]):
        return False
    _, n, paper = thing
    if not is_tuple(paper, 4) or paper[0] != "pair" or not is_number_of(wishes, paper[1]) or paper[1] >= n:
        return False
    return plain_pair(house, wishes[paper[1]], wishes[n], paper[2], paper[3])


def plain_bars_any(house, standing, wishes, thing):
    if plain_bars_alone(house, standing, wishes, thing):
        return True
    if not is_tuple(thing, 2) or thing[0] != "ring" or not is_list(thing[1], 2, 10):
        return False
    for link in thing[1]:
        if not is_tuple(link, 4):
            return False
        m, chain, n, second = link
        if not is_number_of(wishes, m) or not is_number_of(wishes, n) or m == n:
            return False
        if not plain_pair(house, wishes[m], wishes[n], chain, second):
            return False
    return [link[2] for link in thing[1]] == [link[0] for link in thing[1][1:] + thing[1][:1]]


# The same thing with one thing otherwise.

WORDS = ("least", "most", "clash", "pawl", "pair", "bar", "ring", "circle", "chains", "a", "b", "")


def otherwise(thing):
    """All that comes of changing one thing in it, however deep."""
    yield None
    if isinstance(thing, (list, tuple)):
        make = type(thing)
        yield tuple(thing) if make is list else list(thing)
        for k, part in enumerate(thing):
            yield make([*thing[:k], *thing[k + 1:]])
            yield make([*thing[:k], part, *thing[k:]])
            if k:
                yield make([*thing[:k - 1], part, thing[k - 1], *thing[k + 1:]])
            for other in otherwise(part):
                yield make([*thing[:k], other, *thing[k + 1:]])
    elif isinstance(thing, int):
        yield from (thing - 1, thing + 1, -thing, thing == 1, str(thing), [thing], 10 ** 59, GREAT, -GREAT - 1)
    elif isinstance(thing, str):
        yield from (word for word in WORDS if word != thing)
    else:
        yield from (0, -1, False)


# Small houses, gone through whole.

class Small:
    """A small house with all its standings, and where each leads by whatever strength."""

    def __init__(self, house):
        self.house = house
        self.names = names_of(house)
        self.standings = plain_standings(house)
        self.leads = {}

    def reach(self, here):
        if here not in self.leads:
            self.leads[here] = [there for there in self.standings if plain_can_turn(self.house, here, there)]
        return self.leads[here]

    def meets(self, numbers, wish):
        now = dict(zip(self.names, numbers))
        return all(plain_holds(saying, now) for saying in wish)

    def price(self, here, there):
        return sum((b - a) * row[4] if b > a else (a - b) * row[5] for row, a, b in zip(self.house[0], here, there))

    def goals(self, here, wish):
        return [there for there in self.reach(here) if self.meets(there, wish)]

    def come_to(self, here, strength):
        """All standings that are come to by walks of at most this strength."""
        found, todo = {here}, [here]
        while todo:
            a = todo.pop()
            for b in self.reach(a):
                if b not in found and places_between(a, b) <= strength:
                    found.add(b)
                    todo.append(b)
        return found

    def strength(self, here, wish):
        """The least strength that does; some does."""
        if self.meets(here, wish):
            return 0
        return next(k for k in itertools.count(1) if any(self.meets(b, wish) for b in self.come_to(here, k)))

    def nearest(self, here, wish):
        goals = self.goals(here, wish)
        if not goals:
            return None
        price = min(self.price(here, there) for there in goals)
        [numbers] = [there for there in goals if self.price(here, there) == price]
        return (numbers, price, self.strength(here, wish))

    def least_price(self, here, wishes, order):
        """The least price of meeting the wishes in this order, by whatever standings; None where that doesn't go."""
        now = {here: 0}
        for n in order:
            then = {}
            for a, price in now.items():
                for b in self.goals(a, wishes[n]):
                    then[b] = min(then.get(b, price + self.price(a, b)), price + self.price(a, b))
            now = then
        return min(now.values(), default=None)

    def places(self):
        return [(row[0], i) for row in self.house[0] for i in range(row[1] + 1, row[2] + 1)]

    def where(self, place):
        """Where it holds, of all standings."""
        at = self.names.index(place[0])
        return tuple(numbers[at] >= place[1] for numbers in self.standings)


def bound_rules(pick, dials, spot=None):
    """A rule, or two that bind dials with one another, or a gap; mostly such that all hold at the spot."""
    names = [row[0] for row in dials]
    kind = pick.randint(0, 5) if len(names) > 1 else pick.randint(3, 5)

    def saying():
        name, low, high, *_ = pick.choice(dials)
        return (name, pick.choice(["least", "most"]), pick.randint(low, high))

    if kind <= 2:
        a, b = pick.sample(names, 2)
        sign = pick.choice([1, -1])
        c = pick.randint(-3, 5) if spot is None else spot[a] - sign * spot[b] + pick.choice([0, 0, 1, -1, 2, 3])
        if kind == 0:
            return [(pick.choice(["off", "most", "least"]), a, b, c)]
        if sign > 0:
            return [("off", a, b, c), ("off", b, a, -c)]
        return [("most", a, b, c), ("least", a, b, c)]
    if kind == 3:
        p, q = saying(), saying()
        if spot is not None and plain_holds(p, spot) != plain_holds(q, spot):
            q = opposite(q)
        return [("one", opposite(p), q), ("one", opposite(q), p)]
    if kind == 4:
        name, low, high, *_ = pick.choice(dials)
        i = pick.randint(low, high)
        return [("one", (name, "most", i), (name, "least", i + pick.randint(2, 4)))]
    return [("one", saying(), saying())]


def bound_house(pick, ways=("both", "up", "down"), dials=(1, 4)):
    """A small house with a standing at least, and with rules that bind."""
    rows = []
    for name in sorted(pick.sample(NAMES, pick.randint(*dials))):
        low = pick.randint(-2, 1)
        rows.append((name, low, low + pick.randint(1, 5), pick.choice(ways), pick.randint(1, 9), pick.randint(1, 9)))
    spot = {row[0]: pick.randint(row[1], row[2]) for row in rows}
    rules = []
    for _ in range(pick.randint(0, 5)):
        for rule in bound_rules(pick, rows, spot):
            if rule not in rules and plain_rule_holds(rule, spot):
                rules.append(rule)
    return (tuple(rows), tuple(rules))


def some_saying(pick, small, here):
    """A saying, mostly one that doesn't hold here and can be met."""
    there = pick.choice(small.reach(here))
    turned = [k for k, (a, b) in enumerate(zip(here, there)) if a != b] or list(range(len(here)))
    k = pick.choice(turned)
    name, low, high, *_ = small.house[0][k]
    if pick.random() < 0.15:
        i = pick.choice([there[k], low - 1, high + 1, -GREAT, GREAT])
        return (name, pick.choice(["least", "most"]), i)
    return (name, "least" if there[k] > here[k] else "most", there[k])


def some_wish(pick, small, here, most=3):
    return tuple(some_saying(pick, small, here) for _ in range(pick.randint(0, most)))


def small_cases(seed, count, most=3, **more):
    """So many tuples (small, standing, wish); more is for bound_house."""
    pick = random.Random(seed)
    while count:
        small = Small(bound_house(pick, **more))
        if len(small.standings) <= 60:
            here = pick.choice(small.standings)
            yield small, here, some_wish(pick, small, here, most)
            count -= 1
