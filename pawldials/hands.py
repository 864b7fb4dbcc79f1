"""Hands at several standings, and where they meet."""

from pawldials.chains import holds_together
from pawldials.closing import given_by
from pawldials.errors import NoHands
from pawldials.giving import denies
from pawldials.graph import Graph
from pawldials.houses import check_house, stands
from pawldials.kinds import DEAREST
from pawldials.layout import Layout
from pawldials.papers import KEPT_SORTS
from pawldials.plain import is_tuple_of, is_whole
from pawldials.reaching import clash_chain, places_turned, pulled
from pawldials.ways import Ways

MOST_HANDS = 9


def is_hand(house, thing):
    """Whether it is a standing of the house and a weight."""
    return is_tuple_of(thing, 2, 2) and stands(house, thing[0]) and is_whole(thing[1], 1, DEAREST)


def check_hands(house, hands):
    """Refuse what is no house, no hands, in this order."""
    check_house(house)
    if not isinstance(hands, list) or not 1 <= len(hands) <= MOST_HANDS:
        raise NoHands("no list of one to nine hands")
    if not all(is_hand(house, hand) for hand in hands):
        raise NoHands("a hand that is none of this house")


def kept_sayings(house, numbers):
    """The sayings that the pawls keep of these numbers."""
    told = []
    for dial, number in zip(house[0], numbers):
        if dial[3] in KEPT_SORTS:
            told.append((dial[0], KEPT_SORTS[dial[3]], number))
    return told


def kept_of_both(house, hands, m, n):
    """The sayings that the pawls keep of the numbers of two hands."""
    return kept_sayings(house, hands[m][0]) + kept_sayings(house, hands[n][0])


def first_apart(ways, house, hands):
    """The tuple (m, n, chain) of the first two hands that the pawls keep apart; None where they keep no two apart."""
    for m in range(len(hands)):
        for n in range(m + 1, len(hands)):
            chain = clash_chain(ways, kept_of_both(house, hands, m, n))
            if chain is not None:
                return (m, n, chain)
    return None


def middle_of(numbers, weights):
    """The number with no more than half of the weight on either side; of several the nearest to the first number."""
    rows = list(zip(numbers, weights))
    total = sum(weights)
    lows = [number for number in numbers if 2 * sum([much for other, much in rows if other < number]) < total]
    highs = [number for number in numbers if 2 * sum([much for other, much in rows if other > number]) < total]
    return min(max(numbers[0], max(lows)), min(highs))


def middle(rows, weights):
    """The numbers of the standing with the least weighted places to all of these; of several that nearest the first.

    Of the sides of each place that with more weight is taken. Any two such sides have a standing in
    common, so all have; and where both have as much weight, the place is as free as the first wants it.
    """
    return tuple([middle_of([numbers[k] for numbers in rows], weights) for k in range(len(rows[0]))])


def meeting(house, hands):
    """A tuple of the numbers where all hands meet and the least sum; or (m, n, chain) of two that pawls keep apart."""
    check_hands(house, hands)
    ways = Ways(Graph(house))
    apart = first_apart(ways, house, hands)
    if apart is not None:
        return apart
    told = given_by(ways, [saying for numbers, weight in hands for saying in kept_sayings(house, numbers)])
    # Whatever standing they meet at, each hand can first go to the nearest that all pawls allow.
    gates = [pulled(told, numbers) for numbers, weight in hands]
    goal = middle(gates, [weight for numbers, weight in hands])
    return (goal, sum([weight * places_turned(numbers, goal) for numbers, weight in hands]))


def no_meeting(house, hands, thing):
    """Whether it is a tuple (m, n, chain) as meeting tells, of any pair: then these two hands can't meet."""
    check_hands(house, hands)
    if not is_tuple_of(thing, 3, 3):
        return False
    m, n, chain = thing
    if not is_whole(n, 1, len(hands) - 1) or not is_whole(m, 0, n - 1):
        return False
    layout = Layout(house)
    kept = kept_of_both(house, hands, m, n)
    if not holds_together(layout, chain) or chain[0][0] not in kept:
        return False
    return any([denies(layout, chain[-1][0], saying) for saying in kept])
