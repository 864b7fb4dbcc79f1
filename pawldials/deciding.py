"""Whether a house has a standing, and how far its dials go in all of them."""

from pawldials.closing import Given


def facts_of(ways):
    """All that is given by the ends of the spans."""
    told = Given(ways)
    for node, low in enumerate(ways.graph.lows):
        told.say(node, low)
    return told


def tried(known, node, worth):
    """What is given with one more saying; None where it clashes."""
    told = known.copied()
    told.say(node, worth)
    return None if told.clashes() else told


def settled(known):
    """A tuple (told, None) in which each dial has one number, or (None, (node, worth)).

    The latter is a saying that clashes, as its opposite does. Whatever doesn't clash can be said
    for good: what it leaves free has no rule with what it gives. What is known must not clash.
    """
    for node in range(0, len(known.best), 2):
        while known.best[node] + known.best[node + 1] < 0:
            worth = (known.best[node] - known.best[node + 1] + 1) // 2
            told = tried(known, node, worth)
            if told is None:
                told = tried(known, node + 1, 1 - worth)
            if told is None:
                return None, (node, worth)
            known = told
    return known, None


def numbers_in(known):
    """The numbers, where each dial has one."""
    return tuple(known.best[::2])


def farthest(known, node, sure):
    """The greatest worth at the node that doesn't clash; sure is one that doesn't."""
    top = -known.best[node ^ 1]
    if tried(known, node, top) is not None:
        return top
    while top - sure > 1:
        middle = (sure + top) // 2
        if tried(known, node, middle) is None:
            top = middle
        else:
            sure = middle
    return sure


def refutation(ways, node, worth):
    """A chain from this saying to one that denies it; None where there is none."""
    told = Given(ways)
    told.say(node, worth)
    if told.best[node ^ 1] + worth > 0:
        return told.chain_to(node ^ 1)
    end = told.beyond()
    return None if end is None else told.chain_to(end)
