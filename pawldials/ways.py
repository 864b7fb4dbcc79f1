"""Longest ways along the edges of a graph, and circles on which they would never end."""


class Ways:
    """A graph without circles that say more, and the longest way between each two of its nodes.

    reach[node] lists tuples (target, weight); legs[node] has, by the target, a tuple of the
    weight and the tuple of the edges on this way, no node twice. sizes keeps those of rings.
    """

    def __init__(self, graph):
        self.graph = graph
        self.legs = longest_legs(graph)
        self.reach = [[(target, row[target][0]) for target in row] for row in self.legs]
        self.sizes = {}


def first_legs(graph):
    """Of each node the way to itself, and those of one edge."""
    rows = [{node: (0, ())} for node in range(len(graph.lows))]
    for edge in graph.edges:
        source, target, weight, number = edge
        row = rows[source]
        if target not in row or weight > row[target][0]:
            row[target] = (weight, (edge,))
    return rows


def lengthen(row, first, onward):
    """Take into the row each way that is longer by going along the first leg, then on."""
    weight, edges = first
    for target, (more, rest) in onward:
        if target not in row or weight + more > row[target][0]:
            row[target] = (weight + more, edges + rest)


def longest_legs(graph):
    """Of each node a dict of its longest ways, by node after node that may be gone through."""
    rows = first_legs(graph)
    for middle in range(len(rows)):
        onward = list(rows[middle].items())
        for source in range(len(rows)):
            row = rows[source]
            if source != middle and middle in row:
                lengthen(row, row[middle], onward)
    return rows


def relax(graph, worths, came):
    """Go each edge once; the last node that got more, None where none did."""
    last = None
    for edge in graph.edges:
        source, target, weight, number = edge
        if worths[source] + weight > worths[target]:
            worths[target] = worths[source] + weight
            came[target] = edge
            last = target
    return last


def circle_of(graph):
    """The edges of a circle that says more than it begins with, in their order; None where none does."""
    count = len(graph.lows)
    worths = [0] * count
    came = [None] * count
    node = None
    for turn in range(count + 1):
        node = relax(graph, worths, came)
        if node is None:
            return None
    # Where more is given behind so many rounds, going back leads into a circle.
    for turn in range(count):
        node = came[node][0]
    first = node
    edges = [came[first]]
    while edges[-1][0] != first:
        edges.append(came[edges[-1][0]])
    edges.reverse()
    return edges


def hopeless_edge(graph):
    """An edge by which the least worth of its source gives more than its target's span has; else None."""
    for edge in graph.edges:
        source, target, weight, number = edge
        if graph.lows[source] + weight > graph.highs[target]:
            return edge
    return None
