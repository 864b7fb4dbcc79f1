"""How far a wish pulls the dials from a standing, and what that takes."""

from pawldials.binding import ring_size
from pawldials.closing import given_by


def worth_at(standing, node):
    """The worth that a standing has at a node."""
    number = standing[node // 2]
    return -number if node & 1 else number


def pawl_node(dial, node):
    """The node at which a pawl keeps the dial from losing worth; None of a dial without one."""
    if dial[3] == "both":
        return None
    return node if dial[3] == "up" else node + 1


def pawl_nodes(graph):
    """The nodes at which pawls keep what is come to."""
    nodes = [pawl_node(dial, 2 * k) for k, dial in enumerate(graph.dials)]
    return [node for node in nodes if node is not None]


def against_pawl(told, standing):
    """The first node at which a dial would have to go against its pawl; else None."""
    for node in pawl_nodes(told.ways.graph):
        if told.best[node ^ 1] + worth_at(standing, node) > 0:
            return node ^ 1
    return None


def can_reach(told, standing):
    """Whether a walk leads from the standing to one in which all that is given holds."""
    return not told.clashes() and against_pawl(told, standing) is None


def pulled(told, standing):
    """The numbers nearest to the standing in which all that is given holds; it must not clash."""
    best = told.best
    return tuple([min(max(number, best[2 * k]), -best[2 * k + 1]) for k, number in enumerate(standing)])


def places_turned(standing, numbers):
    """How many places lie between, all dials together."""
    return sum(abs(there - here) for here, there in zip(standing, numbers))


def price_between(graph, standing, numbers):
    """The price of turning all dials from the standing to the numbers."""
    price = 0
    for dial, here, there in zip(graph.dials, standing, numbers):
        price += (there - here) * dial[4] if there > here else (here - there) * dial[5]
    return price


def nodes_turned(standing, numbers):
    """The nodes at which the numbers have more worth than the standing."""
    return [node for node in range(2 * len(standing)) if worth_at(numbers, node) > worth_at(standing, node)]


def is_turned(standing, numbers, node, worth):
    """Whether the saying holds by the numbers, and not by the standing."""
    return worth_at(standing, node) < worth <= worth_at(numbers, node)


def ring_places(graph, standing, numbers):
    """Places turned, as nodes and worths, of which one is in the greatest ring that is turned.

    A ring without an either-or has one place of each dial, and is as great at every place of a
    dial; so one place of each dial turned is enough, and what either-ors give.
    """
    places = [(node, worth_at(numbers, node)) for node in nodes_turned(standing, numbers)]
    for source, threshold, target, much, number in graph.ones:
        if is_turned(standing, numbers, source, threshold) and is_turned(standing, numbers, target, much):
            places.append((target, much))
    return places


def greatest_ring(ways, standing, numbers):
    """A tuple (size, node, worth) of the greatest ring turned between; None where nothing is turned."""
    found = None
    for node, worth in ring_places(ways.graph, standing, numbers):
        size = ring_size(ways, node, worth)
        if found is None or size > found[0]:
            found = (size, node, worth)
    return found


def strength_between(ways, standing, numbers):
    """The least strength by which all places between are turned."""
    found = greatest_ring(ways, standing, numbers)
    return 0 if found is None else found[0]


def told_from(told, standing):
    """The tuple of numbers, price and strength by which all that is given is met; None where no walk leads there."""
    if not can_reach(told, standing):
        return None
    numbers = pulled(told, standing)
    price = price_between(told.ways.graph, standing, numbers)
    return (numbers, price, strength_between(told.ways, standing, numbers))


def saying_beyond(graph, wish):
    """The first saying of the wish that no number fits; else None."""
    for saying in wish:
        node, worth = graph.node_of(saying)
        if worth > graph.highs[node]:
            return saying
    return None


def end_of_clash(told, wish):
    """A node at which what is given denies a saying of the wish, each of which some number fits; else None."""
    end = told.beyond()
    if end is not None:
        return end
    for saying in wish:
        node, worth = told.ways.graph.node_of(saying)
        if told.best[node ^ 1] + worth > 0:
            return node ^ 1
    return None


def clash_chain(ways, wish):
    """A chain from a saying of the wish to one that denies a saying of the wish; else None."""
    wrong = saying_beyond(ways.graph, wish)
    if wrong is not None:
        return [(wrong, None)]
    for saying in wish:
        told = given_by(ways, (saying,))
        end = end_of_clash(told, wish)
        if end is not None:
            return told.chain_to(end)
    return None


def paper_against(ways, standing, wish):
    """A paper that bars each walk from the standing to the wish; None where one leads there."""
    chain = clash_chain(ways, wish)
    if chain is not None:
        return ("clash", chain)
    told = given_by(ways, wish)
    node = against_pawl(told, standing)
    return None if node is None else ("pawl", told.chain_to(node))
