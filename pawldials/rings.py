"""Rings of places that turn at once or never."""

from pawldials.binding import both_ways, bound_worths
from pawldials.deciding import facts_of, settled
from pawldials.errors import NoPlace
from pawldials.finding import bar_ahead
from pawldials.graph import Graph
from pawldials.houses import check_house
from pawldials.plain import is_tuple_of, is_whole
from pawldials.ways import Ways


def is_place(house, thing):
    """Whether it is a place of a dial of the house."""
    if not is_tuple_of(thing, 2, 2):
        return False
    name, i = thing
    return any(name == dial[0] and is_whole(i, dial[1] + 1, dial[2]) for dial in house[0])


def ways_of(house):
    """The ways of a house that has a standing; None of others."""
    graph = Graph(house)
    if bar_ahead(graph) is not None:
        return None
    ways = Ways(graph)
    facts = facts_of(ways)
    if facts.clashes() or settled(facts)[0] is None:
        return None
    return ways


def ring_row(graph, node, first, last):
    """The row that tells of places first to last of a node."""
    name = graph.names[node // 2]
    if node & 1:
        # What changes with "most i" is the place i + 1, the other way about.
        return (name, 1 - last, 1 - first, False)
    return (name, first, last, True)


def ring(house, place):
    """The rising list of all places that are bound with this one, rows of each dial's."""
    check_house(house)
    if not is_place(house, place):
        raise NoPlace("no place of this house")
    ways = ways_of(house)
    if ways is None:
        raise NoPlace("a house without standings")
    node = ways.graph.spots[place[0]]
    told, against = both_ways(ways, node, place[1])
    if told.clashes() or against.clashes():
        raise NoPlace("a place that holds in all standings, or in none")
    return sorted([ring_row(ways.graph, row, first, last) for row, first, last in bound_worths(told, against)])
