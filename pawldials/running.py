"""How far a dial can be turned alone, however far that is."""

from pawldials.holding import holds


def bound_by_one(rule, name, sort, now):
    """The last number to which an either-or lets the dial go, None where it lets it go on.

    sort is that of the sayings that may stop to hold in this way: "most" upwards, "least" downwards.
    """
    mine = [saying for saying in rule[1:] if saying[0] == name and saying[1] == sort]
    others = [saying for saying in rule[1:] if saying not in mine]
    if any(holds(saying, now) for saying in others):
        return None
    ends = [saying[2] for saying in mine]
    last = max(ends) if sort == "most" else min(ends)
    behind = {name: last + 1 if sort == "most" else last - 1}
    if any(saying[0] == name and holds(saying, behind) for saying in others):
        return None
    return last


def bound_up(rule, name, now):
    """The greatest number to which the rule lets the dial go up, None where it doesn't hold it back."""
    if rule[0] == "one":
        return bound_by_one(rule, name, "most", now)
    word, a, b, c = rule
    if word == "off" and name == a:
        return now[b] + c
    if word == "most":
        return c - now[b if name == a else a]
    return None


def bound_down(rule, name, now):
    """The least number to which the rule lets the dial go down, None where it doesn't hold it back."""
    if rule[0] == "one":
        return bound_by_one(rule, name, "least", now)
    word, a, b, c = rule
    if word == "off" and name == b:
        return now[a] - c
    if word == "least":
        return c - now[b if name == a else a]
    return None


def run_end(layout, now, name, to):
    """The farthest number, from a standing towards this one, to which the dial can be turned alone."""
    up = to > now[name]
    end = to
    for rule in layout.speaking[name]:
        bound = bound_up(rule, name, now) if up else bound_down(rule, name, now)
        if bound is not None:
            end = min(end, bound) if up else max(end, bound)
    return end
