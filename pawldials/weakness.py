"""Papers that bar walks of too little strength: rings of places that turn at once or never."""

from pawldials.binding import both_ways, bound_worths, given_alone
from pawldials.chains import BY_ITSELF, holds_together
from pawldials.closing import given_by
from pawldials.errors import NoReason, NoStrength
from pawldials.giving import gives
from pawldials.graph import Graph
from pawldials.holding import holds
from pawldials.layout import Layout
from pawldials.nearest import check_walk_to
from pawldials.papers import chain_from
from pawldials.plain import is_count, is_tuple_of
from pawldials.reaching import can_reach, greatest_ring, pulled
from pawldials.ways import Ways

MOST_ROUNDS = 24


def check_weak(house, standing, wish, strength):
    """Refuse what is no house, no standing, no wish, no strength, in this order."""
    check_walk_to(house, standing, wish)
    if not is_count(strength):
        raise NoStrength("no strength from 0 on")


def said_weaker(chain, saying):
    """The chain, ending with this saying, which its last one gives."""
    return chain if chain[-1][0] == saying else chain + [(saying, BY_ITSELF)]


def rounds_of(ways, node, worth):
    """Chains from a saying back to it, by way of all that is bound with it: the most of each dial, then the least."""
    told, against = both_ways(ways, node, worth)
    rounds = []
    for there, first, last in bound_worths(told, against):
        chain = said_weaker(told.chain_to(there), ways.graph.saying_of(there, first))
        back = given_alone(ways, there, first).chain_to(node)
        rounds.append(chain + back[1:])
    return rounds


def weak(house, standing, wish, strength):
    """A paper (chain, rounds) that bars every walk of this strength from the standing to the wish."""
    check_weak(house, standing, wish, strength)
    ways = Ways(Graph(house))
    told = given_by(ways, wish)
    if not can_reach(told, standing):
        raise NoReason("no walk leads there")
    found = greatest_ring(ways, standing, pulled(told, standing))
    if found is None or found[0] <= strength:
        raise NoReason("the strength is enough")
    size, node, worth = found
    chain = said_weaker(told.chain_to(node), ways.graph.saying_of(node, worth))
    return (chain, rounds_of(ways, node, worth))


def is_round(layout, saying, thing):
    """Whether it is a chain from just this saying to one that gives it."""
    return holds_together(layout, thing) and thing[0][0] == saying and gives(thing[-1][0], saying)


def rounds_size(rounds):
    """How many places the rounds have: of each dial and sort the numbers from the least to the greatest."""
    found = {}
    for chain in rounds:
        for (name, sort, i), by in chain:
            least, greatest = found.get((name, sort), (i, i))
            found[(name, sort)] = (min(least, i), max(greatest, i))
    return sum(greatest - least + 1 for least, greatest in found.values())


def bars_weak(house, standing, wish, strength, paper):
    """Whether it is a paper as weak tells: then no walk of this strength meets the wish."""
    check_weak(house, standing, wish, strength)
    layout = Layout(house)
    if not is_tuple_of(paper, 2, 2):
        return False
    chain, rounds = paper
    if not chain_from(layout, wish, chain) or holds(chain[-1][0], layout.by_names(standing)):
        return False
    if not isinstance(rounds, list) or not 1 <= len(rounds) <= MOST_ROUNDS:
        return False
    if not all(is_round(layout, chain[-1][0], thing) for thing in rounds):
        return False
    return rounds_size(rounds) > strength
