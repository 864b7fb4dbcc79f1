"""Rules made of sayings and shifts between nodes, with numbers that a rule may have."""

from pawldials.giving import fits_none, gives


def clause_rules(graph, sayings):
    """A list of the rule by which one of these, a node with a worth each, holds; empty where one always does."""
    # What is beyond the span says as much one place beyond it.
    told = [(node, min(worth, graph.highs[node] + 1)) for node, worth in sayings]
    if any([worth <= graph.lows[node] for node, worth in told]):
        return []
    fitting = [(node, worth) for node, worth in told if worth <= graph.highs[node]]
    if fitting:
        told = fitting
    first, last = told[0], told[-1]
    if first[0] == last[0] ^ 1 and first[1] + last[1] <= 1:
        return []
    if first[0] == last[0]:
        first = last = min(first, last)
    return [("one", graph.saying_of(first[0], first[1]), graph.saying_of(last[0], last[1]))]


def pair_rule(graph, source, target, weight):
    """The rule of the first three sorts by which each worth at the source gives so much more at the target."""
    a, b = graph.names[source // 2], graph.names[target // 2]
    if source & 1 and target & 1:
        return ("off", b, a, -weight)
    if source & 1:
        return ("least", a, b, weight)
    return ("most", a, b, -weight) if target & 1 else ("off", a, b, -weight)


def shift_rules(graph, source, target, weight):
    """A list of the rule by which each worth at the source gives so much more at the target; empty where it has to."""
    never = [(source, graph.highs[source] + 1)]
    if source == target:
        return clause_rules(graph, never) if weight > 0 else []
    if source == target ^ 1:
        # Twice the worth at the target is at least the weight.
        return clause_rules(graph, [(target, -(-weight // 2))])
    if graph.highs[source] + weight <= graph.lows[target]:
        return []
    if graph.lows[source] + weight > graph.highs[target]:
        return clause_rules(graph, never)
    return [pair_rule(graph, source, target, weight)]


def one_says(layout, rule, other):
    """Whether an either-or, by itself, says all that the other rule says."""
    sayings = [saying for saying in rule[1:] if not fits_none(layout, saying)]
    if other[0] != "one":
        return not sayings
    return all([any([gives(saying, told) for told in other[1:]]) for saying in sayings])


def says(layout, rule, other):
    """Whether the rule, by itself, plainly says all that the other one says."""
    if rule[0] == "one":
        return one_says(layout, rule, other)
    if rule[0] != other[0]:
        return False
    if rule[0] == "off":
        return rule[1:3] == other[1:3] and rule[3] <= other[3]
    if sorted(rule[1:3]) != sorted(other[1:3]):
        return False
    return rule[3] <= other[3] if rule[0] == "most" else rule[3] >= other[3]


def with_rule(layout, rules, rule):
    """The rules with one more, without those that it says itself; as they were where one of them says it."""
    if any([says(layout, there, rule) for there in rules]):
        return rules
    return [there for there in rules if not says(layout, rule, there)] + [rule]
