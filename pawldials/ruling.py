"""What follows from the rules of a house, and which houses are alike."""

from pawldials.errors import NoRule, Unlike
from pawldials.finding import any_standing
from pawldials.houses import check_house
from pawldials.kinds import is_rule


def opposite_of(saying):
    """The saying that holds just where this one doesn't."""
    name, sort, i = saying
    return (name, "most", i - 1) if sort == "least" else (name, "least", i + 1)


def against(rule):
    """Rules that hold, all of them, just where this one doesn't; their numbers may go beyond 10 ** 20."""
    if rule[0] == "one":
        return tuple([("one", opposite_of(saying), opposite_of(saying)) for saying in rule[1:]])
    word, a, b, c = rule
    if word == "off":
        return (("off", b, a, -c - 1),)
    return (("least", a, b, c + 1),) if word == "most" else (("most", a, b, c - 1),)


def breaking(dials, rules, rule):
    """The numbers of any standing of dials and rules in which the rule doesn't hold; else None."""
    return None if rule in rules else any_standing((dials, rules + against(rule)))


def follows(house, rule):
    """None where the rule holds in all standings of the house, else the numbers of one in which it doesn't."""
    check_house(house)
    dials, rules = house
    if not is_rule([dial[0] for dial in dials], rule):
        raise NoRule("no rule of this house's dials")
    return breaking(dials, rules, rule)


def needless(house):
    """The rising list of the numbers of rules that follow from the house without them."""
    check_house(house)
    dials, rules = house
    return [k for k, rule in enumerate(rules) if breaking(dials, rules[:k] + rules[k + 1:], rule) is None]


def first_breaking(house, second):
    """The numbers of a standing of the house that is none of the second one; else None."""
    for rule in second[1]:
        numbers = breaking(house[0], house[1], rule)
        if numbers is not None:
            return numbers
    return None


def alike(house, second):
    """None where both houses have the same standings, else (0, numbers) or (1, numbers) of one that only one has."""
    check_house(house)
    check_house(second)
    if [dial[:3] for dial in house[0]] != [dial[:3] for dial in second[0]]:
        raise Unlike("other names, lows or highs")
    numbers = first_breaking(house, second)
    if numbers is not None:
        return (0, numbers)
    numbers = first_breaking(second, house)
    return None if numbers is None else (1, numbers)
