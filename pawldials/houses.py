"""Houses, standings and wishes."""

from pawldials.errors import NoHouse, NoNumbers, NoStanding, NoWish
from pawldials.holding import holds, rule_holds
from pawldials.kinds import is_dial, is_rule, is_saying
from pawldials.layout import Layout
from pawldials.plain import is_tuple_of, is_whole

MOST_DIALS = 12
MOST_RULES = 40
MOST_SAYINGS = 20


def has_house_form(thing):
    """Whether it is a tuple of two tuples of such lengths as a house has."""
    if not is_tuple_of(thing, 2, 2):
        return False
    return is_tuple_of(thing[0], 1, MOST_DIALS) and is_tuple_of(thing[1], 0, MOST_RULES)


def faulty_dial(dials):
    """The number of the first that is no dial, or not above the one ahead; else None."""
    for k, dial in enumerate(dials):
        if not is_dial(dial):
            return k
        if k > 0 and dial[0] <= dials[k - 1][0]:
            return k
    return None


def faulty_rule(names, rules):
    """The number of the first that is no rule, or stands ahead already; else None."""
    for k, rule in enumerate(rules):
        if not is_rule(names, rule) or rule in rules[:k]:
            return k
    return None


def fault_of(thing):
    """None where it is a house, else its first fault."""
    if not has_house_form(thing):
        return ("house",)
    dials, rules = thing
    k = faulty_dial(dials)
    if k is not None:
        return ("dial", k)
    k = faulty_rule([dial[0] for dial in dials], rules)
    if k is not None:
        return ("rule", k)
    return None


def is_house(thing):
    """Whether it is a house."""
    return fault_of(thing) is None


def check_house(house):
    """Refuse what is no house."""
    fault = fault_of(house)
    if fault is not None:
        raise NoHouse(fault)


def are_numbers(house, thing):
    """Whether it is a number for each dial, each of its dial's span."""
    dials = house[0]
    if not is_tuple_of(thing, len(dials), len(dials)):
        return False
    return all(is_whole(number, dial[1], dial[2]) for dial, number in zip(dials, thing))


def check_numbers(house, numbers):
    """Refuse what are no numbers of the house."""
    if not are_numbers(house, numbers):
        raise NoNumbers("no numbers of this house")


def broken_rules(house, numbers):
    """The rising list of the numbers of the rules that don't hold."""
    now = Layout(house).by_names(numbers)
    return [k for k, rule in enumerate(house[1]) if not rule_holds(rule, now)]


def stands(house, thing):
    """Whether it is a standing of what is known to be a house."""
    return are_numbers(house, thing) and not broken_rules(house, thing)


def check_standing(house, standing):
    """Refuse what is no standing of the house."""
    if not stands(house, standing):
        raise NoStanding("no standing of this house")


def wishes_well(house, thing):
    """Whether it is a wish in what is known to be a house."""
    if not is_tuple_of(thing, 0, MOST_SAYINGS):
        return False
    names = [dial[0] for dial in house[0]]
    return all(is_saying(names, saying) for saying in thing)


def check_wish(house, wish):
    """Refuse what is no wish of the house."""
    if not wishes_well(house, wish):
        raise NoWish("no wish of this house")


def is_standing(house, thing):
    """Whether it is numbers by which all rules of the house hold."""
    check_house(house)
    return stands(house, thing)


def is_wish(house, thing):
    """Whether it is a tuple of at most twenty sayings of the house's dials."""
    check_house(house)
    return wishes_well(house, thing)


def broken(house, numbers):
    """The rising list of the numbers of the rules that don't hold by these numbers."""
    check_house(house)
    check_numbers(house, numbers)
    return broken_rules(house, numbers)


def meets(house, numbers, wish):
    """Whether all sayings of the wish hold by these numbers."""
    check_house(house)
    check_numbers(house, numbers)
    check_wish(house, wish)
    now = Layout(house).by_names(numbers)
    return all(holds(saying, now) for saying in wish)
