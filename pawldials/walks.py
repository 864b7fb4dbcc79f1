"""Walks, and how far they lead."""

from pawldials.errors import NoStrength, NoWalk, TooWide
from pawldials.holding import rule_holds
from pawldials.houses import check_house, check_standing
from pawldials.layout import Layout
from pawldials.plain import is_tuple_of, is_whole
from pawldials.pulling import least_heave

MOST_TOLD = 1000
GREATEST_SPREAD = 3


def may_turn(dial, here, to):
    """Whether the dial, by itself, can turn from here to what is handed in."""
    name, low, high, way, up, down = dial
    if not is_whole(to, low, high) or to == here:
        return False
    return way == "both" or way == ("up" if to > here else "down")


def is_turn(layout, now, thing):
    """Whether it is a dial's name and a number to which this dial, by itself, can turn."""
    if not is_tuple_of(thing, 2, 2):
        return False
    name, to = thing
    return name in layout.names and may_turn(layout.dials[name], now[name], to)


def all_hold(layout, now):
    """Whether all rules hold by these numbers."""
    return all(rule_holds(rule, now) for rule in layout.rules)


def turned(now, turns):
    """These numbers with the dials turned."""
    then = dict(now)
    for name, to in turns:
        then[name] = to
    return then


def can_heave(layout, now, heave):
    """Whether what is handed in is a heave from these numbers to a standing."""
    if not is_tuple_of(heave, 1, len(layout.names)):
        return False
    for k, turn in enumerate(heave):
        if not is_turn(layout, now, turn):
            return False
        if k > 0 and turn[0] <= heave[k - 1][0]:
            return False
    return all_hold(layout, turned(now, heave))


def has_gap(rule, name, low, high):
    """Whether an either-or of this dial alone fails somewhere between two numbers at which it holds."""
    if rule[0] != "one" or rule[1][0] != name or rule[2][0] != name:
        return False
    ends = {rule[1][1]: rule[1][2], rule[2][1]: rule[2][2]}
    if len(ends) == 1:
        return False
    return low <= ends["most"] and ends["most"] + 1 < ends["least"] <= high


def can_run(layout, now, run):
    """Whether what is handed in is a run from these numbers.

    Every rule but an either-or of one dial holds all the way where it holds at both ends:
    so only the end and the gaps are looked at, however far it is.
    """
    if not is_turn(layout, now, run):
        return False
    name, to = run
    if not all_hold(layout, turned(now, [run])):
        return False
    low, high = min(now[name], to), max(now[name], to)
    return not any(has_gap(rule, name, low, high) for rule in layout.speaking[name])


def turns_of(layout, now, thing):
    """The turns that a thing of a walk makes, and its strength; None where it is none or can't be done."""
    if is_tuple_of(thing, 2, 2) and thing[0] == "heave" and can_heave(layout, now, thing[1]):
        heave = thing[1]
        return heave, sum(abs(to - now[name]) for name, to in heave)
    if is_tuple_of(thing, 3, 3) and thing[0] == "run" and can_run(layout, now, thing[1:]):
        return (thing[1:],), 1
    return None


def price_of(layout, now, turns):
    """The price of all places that are turned."""
    price = 0
    for turn, to in turns:
        name, low, high, way, up, down = layout.dials[turn]
        places = to - now[name]
        price += places * up if places > 0 else -places * down
    return price


def walked(house, standing, walk):
    """A tuple of the numbers to which the walk leads, its price and its strength."""
    check_house(house)
    check_standing(house, standing)
    if not isinstance(walk, list):
        raise NoWalk(0)
    layout = Layout(house)
    now = layout.by_names(standing)
    price = 0
    strength = 0
    for nth, thing in enumerate(walk):
        done = turns_of(layout, now, thing)
        if done is None:
            raise NoWalk(nth)
        turns, size = done
        price += price_of(layout, now, turns)
        strength = max(strength, size)
        now = turned(now, turns)
    return (layout.numbers_of(now), price, strength)


def next_standings(layout, numbers, strength):
    """The standings behind the least heaves, of at most this strength, that turn a dial by one place."""
    now = layout.by_names(numbers)
    told = []
    for name in layout.names:
        for saying in ((name, "least", now[name] + 1), (name, "most", now[name] - 1)):
            then = least_heave(layout, now, saying, strength)
            if then is not None:
                told.append(layout.numbers_of(then))
    return told


def spread(house, standing, strength):
    """The rising list of all standings to which walks of at most this strength lead.

    Every heave is made of least heaves, one after the other, none of which is greater:
    so these alone are gone.
    """
    check_house(house)
    check_standing(house, standing)
    if not is_whole(strength, 1, GREATEST_SPREAD):
        raise NoStrength("no strength from 1 to 3")
    layout = Layout(house)
    start = layout.numbers_of(layout.by_names(standing))
    found = {start: True}
    ahead = [start]
    while ahead:
        numbers = ahead.pop()
        for then in next_standings(layout, numbers, strength):
            if then not in found:
                found[then] = True
                ahead.append(then)
        if len(found) > MOST_TOLD:
            raise TooWide("more than a thousand standings")
    return sorted(list(found))
