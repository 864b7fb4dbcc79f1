"""Forgetting a dial: what its rules say of the other ones."""

from pawldials.errors import NoDial, TooWide
from pawldials.graph import Graph
from pawldials.houses import MOST_RULES, check_house
from pawldials.layout import Layout, names_in
from pawldials.resolving import clause_rules, shift_rules, with_rule


def cut(room, first, last):
    """The rows (low, high) of the room without what lies from first to last."""
    told = []
    for low, high in room:
        if low < first:
            told.append((low, min(high, first - 1)))
        if high > last:
            told.append((max(low, last + 1), high))
    return told


def turned_about(room):
    """The room as it is at the opposite node."""
    return [(-high, -low) for low, high in reversed(room)]


def room_at(graph, node):
    """Rising rows (low, high) of the worths that the either-ors of this dial alone leave it, node being its "least"."""
    room = [(graph.lows[node], graph.highs[node])]
    for source, threshold, target, much, number in graph.ones:
        if source == target == node and threshold < much:
            room = cut(room, threshold, much - 1)
        elif source == node ^ 1 and target == node:
            room = cut(room, graph.lows[node], min(much, 1 - threshold) - 1)
        elif source == node and target == node ^ 1:
            room = cut(room, 1 - min(much, 1 - threshold), graph.highs[node])
    return room


def raised(room, worth):
    """The least worth of the room from this one on; one beyond it where there is none."""
    for low, high in room:
        if worth <= high:
            return max(worth, low)
    return room[-1][1] + 1


def links_to(graph, node):
    """Tuples (source, weight) of the rules of the first three sorts that give something at the node."""
    return [(source, weight) for source, target, weight, number in graph.edges if target == node]


def floors_at(graph, node, room):
    """Tuples (sayings, worth): the node has this worth, or one of the sayings holds; the first is the room's own."""
    told = [([], room[0][0])]
    for source, threshold, target, much, number in graph.ones:
        if target == node and source // 2 != node // 2:
            told.append(([(source ^ 1, 1 - threshold)], raised(room, much)))
    return told


def gap_clauses(room, link, against):
    """What two links say, one to each side of the dial, so that it needn't stand where the room has gaps."""
    told = []
    for k in range(1, len(room)):
        below, above = room[k - 1][1], room[k][0]
        told.append([(link[0] ^ 1, link[1] - below), (against[0] ^ 1, against[1] + above)])
    return told


def clauses_between(graph, node, room):
    """Lists of sayings one of which has to hold, so that the dial has a number; those of one saying ahead."""
    opposite = turned_about(room)
    links, against = links_to(graph, node), links_to(graph, node ^ 1)
    floors, tops = floors_at(graph, node, room), floors_at(graph, node ^ 1, opposite)
    told = [said + more for said, worth in floors for more, top in tops if worth + top > 0]
    told += [more + [(source ^ 1, weight + top)] for source, weight in links for more, top in tops]
    told += [said + [(source ^ 1, weight + worth)] for source, weight in against for said, worth in floors]
    for link in links:
        for other in against:
            told.extend(gap_clauses(room, link, other))
    return sorted(told, key=len)


def rules_between(graph, node):
    """The rules that say of the other dials that this one has a number."""
    room = room_at(graph, node)
    if not room:
        # No number is left to the dial: so another one must have none either.
        other = 0 if node > 0 else 2
        return clause_rules(graph, [(other, graph.highs[other] + 1)])
    told = []
    for sayings in clauses_between(graph, node, room):
        told.extend(clause_rules(graph, sayings))
    for source, weight in links_to(graph, node):
        for other, more in links_to(graph, node ^ 1):
            told.extend(shift_rules(graph, source, other ^ 1, weight + more))
    return told


def forgotten(house, name):
    """A house of the other dials whose standings are those that some number of this dial makes one of the house."""
    check_house(house)
    dials, rules = house
    layout = Layout(house)
    if name not in layout.names or len(dials) == 1:
        raise NoDial("no dial, or the only one")
    told = [rule for rule in rules if name not in names_in(rule)]
    graph = Graph(house)
    for rule in rules_between(graph, graph.spots[name]):
        told = with_rule(layout, told, rule)
        if len(told) > MOST_RULES:
            raise TooWide("more than forty rules")
    return (tuple([dial for dial in dials if dial[0] != name]), tuple(told))
