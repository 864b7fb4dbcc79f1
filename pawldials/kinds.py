"""What is a name, a dial, a saying, a rule: asked of anything."""

from pawldials.plain import is_tuple_of, is_whole

FARTHEST = 10 ** 18
GREATEST = 10 ** 20
DEAREST = 1000000
LONGEST_NAME = 8
WAYS = ("both", "up", "down")
SORTS = ("least", "most")
PAIR_RULES = ("off", "most", "least")


def is_name(thing):
    """Whether it is a text of one to eight small letters."""
    if not isinstance(thing, str) or not 1 <= len(thing) <= LONGEST_NAME:
        return False
    return all("a" <= sign <= "z" for sign in thing)


def is_price(thing):
    """Whether it is the price of one place."""
    return is_whole(thing, 1, DEAREST)


def is_dial(thing):
    """Whether it is a dial, whatever house it stands in."""
    if not is_tuple_of(thing, 6, 6):
        return False
    name, low, high, way, up, down = thing
    if not is_name(name) or way not in WAYS:
        return False
    if not is_whole(low, -FARTHEST, FARTHEST) or not is_whole(high, low, FARTHEST):
        return False
    return is_price(up) and is_price(down)


def is_saying(names, thing):
    """Whether it is a saying of a dial with one of these names."""
    if not is_tuple_of(thing, 3, 3):
        return False
    name, sort, i = thing
    return name in names and sort in SORTS and is_whole(i, -GREATEST, GREATEST)


def is_rule(names, thing):
    """Whether it is a rule of dials with these names."""
    if is_tuple_of(thing, 3, 3):
        word, first, second = thing
        return word == "one" and is_saying(names, first) and is_saying(names, second)
    if is_tuple_of(thing, 4, 4):
        word, a, b, c = thing
        if word not in PAIR_RULES or a not in names or b not in names:
            return False
        return a != b and is_whole(c, -GREATEST, GREATEST)
    return False
