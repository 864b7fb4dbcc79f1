"""Places that are bound: those that change at once or never.

A place is known here by a node and a worth, the saying that holds where it has changed.
"""

from pawldials.closing import Given


def given_alone(ways, node, worth):
    """All that is given by this saying."""
    told = Given(ways)
    told.say(node, worth)
    return told


def both_ways(ways, node, worth):
    """What is given by the saying, and what by its opposite."""
    return given_alone(ways, node, worth), given_alone(ways, node ^ 1, 1 - worth)


def bound_worths(told, against):
    """Tuples (node, first, last): what holds just where the saying does, by what it and its opposite give.

    From first on it gives the saying, and up to last it is given by it.
    """
    rows = []
    for node, last in enumerate(told.best):
        first = 1 - against.best[node ^ 1]
        if first <= last:
            rows.append((node, first, last))
    return rows


def ring_size(ways, node, worth):
    """How many places are bound with that of the saying, which holds in some standings and not in all."""
    place = (node, worth)
    if place not in ways.sizes:
        told, against = both_ways(ways, node, worth)
        ways.sizes[place] = sum(last - first + 1 for row, first, last in bound_worths(told, against))
    return ways.sizes[place]
