"""Keepers: one who stands in a house, has coins and does deeds that can be taken back."""

from pawldials.errors import (Broken, Never, NoDeed, NoDial, NoHouse, NoNumber, NoPrice, NoRule, NoStrength,
                              NothingDone, Poor, Taken, Weak)
from pawldials.holding import rule_holds
from pawldials.houses import check_house, check_standing, fault_of
from pawldials.kinds import is_rule
from pawldials.layout import Layout
from pawldials.nearest import nearest
from pawldials.orders import MOST_WISHES, check_wishes, open_now
from pawldials.plain import is_count, is_whole

MOST_EARNED = 10 ** 40


class State:
    """How it is with a keeper at one time; never changed once it is made."""

    def __init__(self, house, standing, coins, paid):
        self.house = house
        self.standing = standing
        self.coins = coins
        self.paid = paid


def names_of(house):
    """The names of the dials."""
    return [dial[0] for dial in house[0]]


def behind_earn(state, strength, deed):
    """The state behind earning coins."""
    if not is_whole(deed[1], 1, MOST_EARNED):
        raise NoPrice("no whole number from 1 to 10 ** 40")
    return State(state.house, state.standing, state.coins + deed[1], state.paid)


def behind_walk(state, strength, wish):
    """The state behind going to the nearest standing that meets the wish."""
    told = nearest(state.house, state.standing, wish)
    if told is None:
        raise Never("no walk leads there")
    numbers, price, least = told
    if least > strength:
        raise Weak(least)
    if price > state.coins:
        raise Poor(price)
    return State(state.house, numbers, state.coins - price, state.paid + price)


def behind_turn(state, strength, deed):
    """The state behind turning a dial to just a number."""
    word, name, number = deed
    dials = [dial for dial in state.house[0] if dial[0] == name]
    if not dials:
        raise NoDial("no dial of the house")
    if not is_whole(number, dials[0][1], dials[0][2]):
        raise NoNumber("no number of the dial's span")
    return behind_walk(state, strength, ((name, "least", number), (name, "most", number)))


def behind_meet(state, strength, deed):
    """The state behind meeting a wish."""
    return behind_walk(state, strength, deed[1])


def behind_put(state, strength, deed):
    """The state behind putting a rule into the house."""
    dials, rules = state.house
    rule = deed[1]
    if not is_rule(names_of(state.house), rule):
        raise NoRule("no rule of the house's dials")
    if rule in rules:
        raise Taken("the house has this rule")
    if not rule_holds(rule, Layout(state.house).by_names(state.standing)):
        raise Broken("the rule doesn't hold now")
    house = (dials, rules + (rule,))
    fault = fault_of(house)
    if fault is not None:
        raise NoHouse(fault)
    return State(house, state.standing, state.coins, state.paid)


def behind_strike(state, strength, deed):
    """The state behind striking a rule of the house."""
    dials, rules = state.house
    rule = deed[1]
    # A truth is equal to a number, but makes no rule.
    if not is_rule(names_of(state.house), rule) or rule not in rules:
        raise NoRule("no rule of the house")
    house = (dials, tuple([there for there in rules if there != rule]))
    return State(house, state.standing, state.coins, state.paid)


DEEDS = {
    "earn": behind_earn,
    "turn": behind_turn,
    "meet": behind_meet,
    "put": behind_put,
    "strike": behind_strike,
}
COUNTS = {"earn": 2, "turn": 3, "meet": 2, "put": 2, "strike": 2}


def is_deed(thing):
    """Whether it is a tuple with a deed's word and as many things as that has."""
    if not isinstance(thing, tuple) or not thing or not isinstance(thing[0], str):
        return False
    return thing[0] in COUNTS and len(thing) == COUNTS[thing[0]]


def behind_deed(state, strength, deed):
    """The state behind a deed, which may be refused."""
    if not is_deed(deed):
        raise NoDeed("no deed")
    doing = DEEDS[deed[0]]
    return doing(state, strength, deed)


class Keeper:
    """One of a strength who stands in a house, and does deeds there."""

    def __init__(self, house, standing, strength):
        check_house(house)
        check_standing(house, standing)
        if not is_count(strength) or strength == 0:
            raise NoStrength("no strength from 1 on")
        self.strength = strength
        self.state = State(house, standing, 0, 0)
        # Of each deed that stands the state ahead of it is kept, of each taken back the one behind it.
        self.past = []
        self.undone = []

    def do(self, deed):
        """Do a deed."""
        state = behind_deed(self.state, self.strength, deed)
        self.past.append((deed, self.state))
        self.undone.clear()
        self.state = state

    def undo(self):
        """Take the last deed back."""
        if not self.past:
            raise NothingDone("no deed stands")
        deed, state = self.past.pop()
        self.undone.append((deed, self.state))
        self.state = state

    def again(self):
        """Do again what was taken back last."""
        if not self.undone:
            raise NothingDone("nothing was taken back")
        deed, state = self.undone.pop()
        self.past.append((deed, self.state))
        self.state = state

    def stand_now(self):
        """The numbers at which it stands."""
        return self.state.standing

    def coins_now(self):
        """The coins that it has."""
        return self.state.coins

    def paid_now(self):
        """The sum of all prices paid by the deeds that stand."""
        return self.state.paid

    def house_now(self):
        """The house as it is."""
        return self.state.house

    def deeds_now(self):
        """The list of the deeds that stand, in the order in which they were done."""
        return [deed for deed, state in self.past]

    def can_meet(self, wish):
        """What nearest tells of the wish."""
        return nearest(self.state.house, self.state.standing, wish)

    def loses(self, deed, wishes):
        """The rising list of the numbers of wishes that can be met now, and not behind the deed."""
        state = self.state
        check_wishes(state.house, state.standing, wishes, MOST_WISHES)
        then = behind_deed(state, self.strength, deed)
        left = open_now(then.house, then.standing, wishes)
        return [n for n in open_now(state.house, state.standing, wishes) if n not in left]

    def copied(self):
        """A keeper that stands alike, with its past and what was taken back, and goes its own way."""
        told = Keeper(self.state.house, self.state.standing, self.strength)
        told.state = self.state
        told.past = list(self.past)
        told.undone = list(self.undone)
        return told
