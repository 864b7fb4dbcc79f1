"""The refusals, a class for each."""

from pawldials.plain import kept


class DialError(ValueError):
    """What all refusals are, but NothingDone and NotYet."""


class NoHouse(DialError):
    """A house that is none; fault is what fault_of tells of it."""

    def __init__(self, fault):
        self.fault = kept(fault)


class NoNumbers(DialError):
    """Numbers that are none of the house."""


class NoStanding(DialError):
    """A standing that is none of the house."""


class NoWish(DialError):
    """A wish that is none of the house."""


class NoWishes(DialError):
    """Wishes that are no list of one to ten wishes."""


class NoWalk(DialError):
    """A walk that is none; nth is the number of the first thing that is none or can't be done."""

    def __init__(self, nth):
        self.nth = kept(nth)


class NoStrength(DialError):
    """A strength that is none."""


class NoPlace(DialError):
    """A place that is none, or that holds in all standings, or in none."""


class NoDial(DialError):
    """A name of no dial that is asked for."""


class NoReason(DialError):
    """Nothing of which a reason could be told."""


class NoBeat(DialError):
    """A count of beats that is none."""


class NoNumber(DialError):
    """A number at which the dial can't be asked for."""


class NoHands(DialError):
    """Hands that are none."""


class NoRule(DialError):
    """A rule that is none of the house's dials, or none of the house."""


class NoDeed(DialError):
    """A deed that is none."""


class NoPrice(DialError):
    """Coins that are no price."""


class NoChain(DialError):
    """A chain that is none."""


class NoText(DialError):
    """A text that can't be read; row is the number of the first row that is none."""

    def __init__(self, row):
        self.row = kept(row)


class NoRow(DialError):
    """A row that the desk doesn't know."""


class TooWide(DialError):
    """More than is told."""


class TooLong(DialError):
    """A walk of more things than most."""

    def __init__(self, most):
        self.most = kept(most)


class TooStrong(DialError):
    """A wish that is met by more than strength 1 alone: by this strength."""

    def __init__(self, strength):
        self.strength = kept(strength)


class Weak(DialError):
    """A deed for which the keeper is too weak; strength is the least that does."""

    def __init__(self, strength):
        self.strength = kept(strength)


class Poor(DialError):
    """A deed for which the coins are too few; price is what it takes."""

    def __init__(self, price):
        self.price = kept(price)


class Never(DialError):
    """No walk leads there."""


class Taken(DialError):
    """A rule that the house has already."""


class Broken(DialError):
    """A rule that doesn't hold where the keeper stands."""


class Unlike(DialError):
    """Two houses whose dials are not the same."""


class NothingDone(LookupError):
    """Nothing to take back, or to do again."""


class NotYet(RuntimeError):
    """No house, or no keeper, so far."""
