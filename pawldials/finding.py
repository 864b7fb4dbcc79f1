"""Any standing of a house, or what bars all of them; and the spans of its dials."""

from pawldials.chains import holds_together
from pawldials.deciding import facts_of, farthest, numbers_in, refutation, settled
from pawldials.giving import denies
from pawldials.graph import Graph
from pawldials.houses import check_house, check_wish
from pawldials.layout import Layout
from pawldials.plain import is_tuple_of
from pawldials.ways import Ways, circle_of, hopeless_edge


def circle_chain(graph, edges):
    """The chain once around a circle."""
    node = edges[0][0]
    worth = graph.lows[node]
    chain = [(graph.saying_of(node, worth), None)]
    for source, target, weight, number in edges:
        worth += weight
        chain.append((graph.saying_of(target, worth), number))
    return chain


def hopeless_chains(graph, edge):
    """Chains where a single rule can't hold: what holds everywhere gives what holds nowhere."""
    source, target, weight, number = edge
    low = graph.lows[source]
    chain = [(graph.saying_of(source, low), None)]
    chain.append((graph.saying_of(target, graph.highs[target] + 1), number))
    return ("chains", chain, [(graph.saying_of(source ^ 1, 1 - low), None)])


def both_chains(ways, node, worth):
    """Chains that refute a saying and its opposite."""
    return ("chains", refutation(ways, node, worth), refutation(ways, node ^ 1, 1 - worth))


def chains_of_facts(ways):
    """Chains where the ends of the spans alone can't hold with the rules."""
    for node, low in enumerate(ways.graph.lows):
        if refutation(ways, node, low) is not None:
            return both_chains(ways, node, low)
    return None


def bar_ahead(graph):
    """What bars all standings by rules of the first three sorts, where ways would have no end; else None."""
    edge = hopeless_edge(graph)
    if edge is not None:
        return hopeless_chains(graph, edge)
    edges = circle_of(graph)
    if edges is not None:
        return ("circle", circle_chain(graph, edges))
    return None


def some_standing(house):
    """A tuple ("standing", numbers); else ("circle", chain) or ("chains", chain, second)."""
    check_house(house)
    graph = Graph(house)
    bar = bar_ahead(graph)
    if bar is not None:
        return bar
    ways = Ways(graph)
    facts = facts_of(ways)
    if facts.clashes():
        return chains_of_facts(ways)
    known, wrong = settled(facts)
    if known is None:
        return both_chains(ways, wrong[0], wrong[1])
    return ("standing", numbers_in(known))


def any_standing(house):
    """The numbers of any standing; None where there is none. It may have more rules than a house, with any numbers."""
    graph = Graph(house)
    if bar_ahead(graph) is not None:
        return None
    facts = facts_of(Ways(graph))
    known = None if facts.clashes() else settled(facts)[0]
    return None if known is None else numbers_in(known)


def is_circle(layout, thing):
    """Whether it is a chain by rules of the first three sorts to more than it begins with."""
    if not holds_together(layout, thing):
        return False
    for saying, by in thing[1:]:
        if by >= 0 and layout.rules[by][0] == "one":
            return False
    first, last = thing[0][0], thing[-1][0]
    if first[:2] != last[:2]:
        return False
    return last[2] > first[2] if first[1] == "least" else last[2] < first[2]


def refutes_itself(layout, thing):
    """Whether it is a chain to a saying that denies its first one."""
    return holds_together(layout, thing) and denies(layout, thing[-1][0], thing[0][0])


def many_fit(layout, saying):
    """How many numbers of its dial's span fit the saying."""
    name, low, high, way, up, down = layout.dials[saying[0]]
    if saying[1] == "least":
        return max(0, high - max(low, saying[2]) + 1)
    return max(0, min(high, saying[2]) - low + 1)


def is_opposite(layout, saying, other):
    """Whether the other one is of the same dial and holds for just those numbers of its span for which this doesn't."""
    if other[0] != saying[0] or not denies(layout, other, saying):
        return False
    dial = layout.dials[saying[0]]
    return many_fit(layout, saying) + many_fit(layout, other) == dial[2] - dial[1] + 1


def bars_all(house, thing):
    """Whether it is a circle, or chains, as some_standing tells: then the house has no standing."""
    check_house(house)
    layout = Layout(house)
    if is_tuple_of(thing, 2, 2):
        return thing[0] == "circle" and is_circle(layout, thing[1])
    if not is_tuple_of(thing, 3, 3) or thing[0] != "chains":
        return False
    word, chain, second = thing
    if not refutes_itself(layout, chain) or not refutes_itself(layout, second):
        return False
    return is_opposite(layout, chain[0][0], second[0][0])


def spans_in(known):
    """The spans of all dials, by their names, of what is known not to clash; None where nothing fits it."""
    told = settled(known)[0]
    if told is None:
        return None
    found = {}
    for k, name in enumerate(known.ways.graph.names):
        least = -farthest(known, 2 * k + 1, told.best[2 * k + 1])
        found[name] = (least, farthest(known, 2 * k, told.best[2 * k]))
    return found


def spans(house, wish):
    """The least and the greatest number of each dial, by its name, in all standings that meet the wish."""
    check_house(house)
    check_wish(house, wish)
    graph = Graph(house)
    if bar_ahead(graph) is not None:
        return None
    known = facts_of(Ways(graph))
    known.say_all(wish)
    return None if known.clashes() else spans_in(known)
