"""Chains of sayings, each of which is given by the one ahead."""

from pawldials.giving import given, gives
from pawldials.houses import check_house
from pawldials.kinds import is_saying
from pawldials.layout import Layout
from pawldials.plain import is_tuple_of, is_whole

LONGEST_CHAIN = 2000
BY_ITSELF = -1


def leads_on(layout, saying, link):
    """Whether what is handed in is a link that may stand behind this saying."""
    if not is_tuple_of(link, 2, 2):
        return False
    told, by = link
    if not is_saying(layout.names, told) or not is_whole(by, BY_ITSELF, len(layout.rules) - 1):
        return False
    if by == BY_ITSELF:
        return gives(saying, told)
    return any([gives(said, told) for said in given(layout, layout.rules[by], saying)])


def begins(layout, link):
    """Whether what is handed in is a link that may stand first."""
    return is_tuple_of(link, 2, 2) and link[1] is None and is_saying(layout.names, link[0])


def holds_together(layout, thing):
    """Whether it is a chain of what is known to be a house."""
    if not isinstance(thing, list) or not 1 <= len(thing) <= LONGEST_CHAIN:
        return False
    if not begins(layout, thing[0]):
        return False
    return all(leads_on(layout, thing[k - 1][0], thing[k]) for k in range(1, len(thing)))


def is_chain(house, thing):
    """Whether it is a chain of the house."""
    check_house(house)
    return holds_together(Layout(house), thing)
