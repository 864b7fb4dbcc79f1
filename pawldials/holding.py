"""Where a saying and a rule hold; the numbers of dials are a dict by their names here."""


def holds(saying, now):
    """Whether the saying holds by these numbers."""
    name, sort, i = saying
    if sort == "least":
        return now[name] >= i
    return now[name] <= i


def rule_holds(rule, now):
    """Whether the rule holds by these numbers."""
    if rule[0] == "one":
        return holds(rule[1], now) or holds(rule[2], now)
    word, a, b, c = rule
    if word == "off":
        return now[a] <= now[b] + c
    if word == "most":
        return now[a] + now[b] <= c
    return now[a] + now[b] >= c
