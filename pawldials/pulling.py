"""The least heave that makes a saying hold."""

from pawldials.giving import given
from pawldials.holding import holds


def may_go(dial, start, here, to):
    """Whether a dial that stood at start and is pulled to here can be pulled on to another number."""
    name, low, high, way, up, down = dial
    if not low <= to <= high:
        return False
    if to > here:
        return here >= start and way != "down"
    return here <= start and way != "up"


def least_heave(layout, start, saying, strength):
    """The numbers behind the least heave from a standing by which the saying holds.

    None where no heave of at most this strength does it. Only what the saying gives is
    turned, so every heave by which it holds turns these places too.
    """
    now = dict(start)
    size = 0
    asked = [saying]
    while asked:
        pull = asked.pop()
        if holds(pull, now):
            continue
        name, sort, to = pull
        if not may_go(layout.dials[name], start[name], now[name], to):
            return None
        size += abs(to - now[name])
        if size > strength:
            return None
        now[name] = to
        for rule in layout.speaking[name]:
            asked.extend(given(layout, rule, pull))
    return now
