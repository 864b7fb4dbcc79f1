"""Houses and chains as texts."""

from pawldials.chains import BY_ITSELF, LONGEST_CHAIN
from pawldials.errors import NoChain, NoText
from pawldials.houses import MOST_RULES, check_house, is_house
from pawldials.kinds import WAYS, is_name, is_saying
from pawldials.plain import is_tuple_of, is_whole
from pawldials.words import read_number, read_numbers, read_rule, read_saying, written_rule, written_saying

DIAL_WORDS = 7


def show_house(house):
    """The text of a house."""
    check_house(house)
    rows = [f"dial {name} {low} {high} {way} {up} {down}" for name, low, high, way, up, down in house[0]]
    return "\n".join(rows + [written_rule(rule) for rule in house[1]])


def read_dial(words):
    """The dial that these words write, with whatever numbers; None where they write none."""
    if len(words) != DIAL_WORDS or words[0] != "dial":
        return None
    word, name, low, high, way, up, down = words
    numbers = read_numbers([low, high, up, down])
    if not is_name(name) or way not in WAYS or numbers is None:
        return None
    return (name, numbers[0], numbers[1], way, numbers[2], numbers[3])


def read_house(text):
    """The house of a text."""
    if not isinstance(text, str):
        raise NoText(0)
    dials = []
    rules = []
    rows = text.split("\n")
    for k, row in enumerate(rows):
        words = row.split(" ")
        dial = read_dial(words)
        rule = read_rule(words)
        if rule is not None:
            rules.append(rule)
        elif dial is not None and not rules:
            dials.append(dial)
        else:
            raise NoText(k)
    house = (tuple(dials), tuple(rules))
    if not is_house(house):
        raise NoText(len(rows))
    return house


def is_any_saying(thing):
    """Whether it is a saying of a dial of whatever name."""
    return is_tuple_of(thing, 3, 3) and is_name(thing[0]) and is_saying([thing[0]], thing)


def is_any_link(thing):
    """Whether it is a link of a chain of whatever house, behind the first one."""
    if not is_tuple_of(thing, 2, 2):
        return False
    return is_any_saying(thing[0]) and is_whole(thing[1], BY_ITSELF, MOST_RULES - 1)


def has_chain_form(thing):
    """Whether it is a chain by its form, whatever the house."""
    if not isinstance(thing, list) or not 1 <= len(thing) <= LONGEST_CHAIN:
        return False
    first = thing[0]
    if not is_tuple_of(first, 2, 2) or not is_any_saying(first[0]) or first[1] is not None:
        return False
    return all(is_any_link(link) for link in thing[1:])


def show_chain(chain):
    """The text of a chain."""
    if not has_chain_form(chain):
        raise NoChain("no chain by its form")
    words = [written_saying(chain[0][0])]
    for saying, by in chain[1:]:
        words.append("=" if by == BY_ITSELF else str(by))
        words.append(written_saying(saying))
    return " ".join(words)


def read_by(word):
    """The number of a rule that the word writes; what it else may be is none of a chain's numbers."""
    if word == "=":
        return BY_ITSELF
    number = read_number(word)
    return None if number == BY_ITSELF else number


def read_chain(text):
    """The chain of a text."""
    if not isinstance(text, str):
        raise NoText(0)
    words = text.split(" ")
    sayings = [read_saying(word) for word in words[::2]]
    numbers = [None] + [read_by(word) for word in words[1::2]]
    chain = list(zip(sayings, numbers))
    if len(sayings) != len(numbers) or not has_chain_form(chain):
        raise NoText(0)
    return chain
