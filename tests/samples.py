"""Houses and things for the tests, and a plain way to go through small houses."""

import itertools

FAR = 10 ** 18
GREAT = 10 ** 20
NAMES = "abcdefghijkl"


def dial(name, low=0, high=9, way="both", up=1, down=1):
    return (name, low, high, way, up, down)


def house_of(dials, *rules):
    return (tuple(dials), tuple(rules))


def wide_house(*rules, count=2, way="both"):
    """Dials from -10 ** 18 to 10 ** 18, named a, b and so on."""
    return house_of([dial(name, -FAR, FAR, way) for name in NAMES[:count]], *rules)


# a and b turn both ways, c up alone, d down alone; all prices differ.
MIXED = house_of(
    [
        dial("a", 0, 9, "both", 2, 3),
        dial("b", -5, 5, "both", 5, 7),
        dial("c", 0, 9, "up", 11, 13),
        dial("d", -9, 9, "down", 17, 19),
    ],
    ("off", "a", "b", 3),
    ("most", "a", "c", 10),
    ("least", "b", "d", -6),
    ("one", ("c", "most", 4), ("d", "most", 0)),
)
MIXED_START = (1, 0, 2, 3)


def deep(make, levels=50):
    """A thing so many levels deep."""
    thing = make(None)
    for _ in range(levels - 1):
        thing = make(thing)
    return thing


def odd_things():
    """What may be handed in anywhere: none of it is a house, a standing, a wish, a walk, a strength."""
    return [
        None, True, False, -1, 7, 10 ** 59, -(10 ** 59), "", "a", "least", "house", "a" * 20000,
        [[]], {}, {"a": 1}, {1: [2]}, (None,), (True,), ("a",), ("a", "least", 1), ("off", "a", "b", 0),
        [("heave", ())], [("run", "a")], ((), (), ()), ([], []), [(), ()], (("a", 1),), ((),), ((), ()),
        ({},), ([],), (("a", "least", None),), (("a", ["least"], 1),), ((["a"], "least", 1),),
        deep(lambda part: (part,)), deep(lambda part: [part]), deep(lambda part: {"a": part}),
        tuple([None] * 19999), [None] * 19999, [0] * 12 + [None], {k: k for k in range(9999)},
        tuple([("a", "least", 0)] * 4999), ((deep(lambda part: (part, "a")),), ({"a": [1]},)),
    ]


def frozen(thing):
    """A text that tells everything of a thing, to see whether it was changed."""
    return repr(thing)


def plain_holds(saying, now):
    name, sort, number = saying
    return now[name] >= number if sort == "least" else now[name] <= number


def plain_rule_holds(rule, now):
    if rule[0] == "one":
        return plain_holds(rule[1], now) or plain_holds(rule[2], now)
    word, a, b, c = rule
    return {"off": now[a] - now[b] <= c, "most": now[a] + now[b] <= c, "least": now[a] + now[b] >= c}[word]


def plain_standings(house):
    """All standings of a small house, by going through all numbers."""
    names = [row[0] for row in house[0]]
    told = []
    for numbers in itertools.product(*[range(row[1], row[2] + 1) for row in house[0]]):
        now = dict(zip(names, numbers))
        if all(plain_rule_holds(rule, now) for rule in house[1]):
            told.append(numbers)
    return told


def plain_can_turn(house, numbers, others):
    """Whether no dial goes against its pawl."""
    for row, here, there in zip(house[0], numbers, others):
        if here != there and row[3] not in ("both", "up" if there > here else "down"):
            return False
    return True


def places_between(numbers, others):
    return sum(abs(here - there) for here, there in zip(numbers, others))


def plain_spread(house, standing, strength):
    """All standings that are come to, by going all heaves."""
    standings = plain_standings(house)
    found, todo = {standing}, [standing]
    while todo:
        here = todo.pop()
        for there in standings:
            near = there not in found and places_between(here, there) <= strength
            if near and plain_can_turn(house, here, there):
                found.add(there)
                todo.append(there)
    return sorted(found)


def random_rule(pick, names):
    def saying():
        return (pick.choice(names), pick.choice(["least", "most"]), pick.randint(-4, 6))

    if len(names) > 1 and pick.random() < 0.6:
        a, b = pick.sample(names, 2)
        return (pick.choice(["off", "most", "least"]), a, b, pick.randint(-3, 4))
    return ("one", saying(), saying())


def random_house(pick):
    """A small house; pick is a random.Random made from a seed, so each run is the same."""
    names = sorted(pick.sample(NAMES, pick.randint(1, 4)))
    dials = []
    for name in names:
        low = pick.randint(-2, 1)
        way = pick.choice(["both", "both", "up", "down"])
        dials.append((name, low, low + pick.randint(0, 4), way, pick.randint(1, 9), pick.randint(1, 9)))
    rules = []
    for _ in range(pick.randint(0, 5)):
        rule = random_rule(pick, names)
        if rule not in rules:
            rules.append(rule)
    return (tuple(dials), tuple(rules))
