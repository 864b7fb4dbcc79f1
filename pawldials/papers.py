"""What a looker lets by: papers that bar walks, asked of anything."""

from pawldials.chains import holds_together
from pawldials.giving import denies
from pawldials.plain import is_tuple_of, is_whole

KEPT_SORTS = {"up": "least", "down": "most"}


def chain_from(layout, wish, thing):
    """Whether it is a chain from a saying of the wish."""
    return holds_together(layout, thing) and thing[0][0] in wish


def denies_wish(layout, wish, saying):
    """Whether the saying denies one of the wish."""
    return any(denies(layout, saying, other) for other in wish)


def against_way(layout, now, saying):
    """Whether the saying is of a dial with a pawl, and no number fits it from where the dial stands on in its way."""
    name, sort, i = saying
    dial = layout.dials[name]
    if dial[3] == "both":
        return False
    low = now[name] if dial[3] == "up" else dial[1]
    high = dial[2] if dial[3] == "up" else now[name]
    return i > high if sort == "least" else i < low


def is_paper(layout, now, wish, thing):
    """Whether it is a clash or a pawl that bars the wish from these numbers."""
    if not is_tuple_of(thing, 2, 2) or thing[0] not in ("clash", "pawl"):
        return False
    word, chain = thing
    if not chain_from(layout, wish, chain):
        return False
    last = chain[-1][0]
    return denies_wish(layout, wish, last) if word == "clash" else against_way(layout, now, last)


def is_pair(layout, wish, behind, chain, second):
    """Whether the chains show that the wish behind can't be met once the first one was: a pawl keeps what denies it."""
    if not chain_from(layout, wish, chain) or not chain_from(layout, behind, second):
        return False
    name, sort, i = chain[-1][0]
    if KEPT_SORTS.get(layout.dials[name][3]) != sort:
        return False
    return second[-1][0][0] == name and denies(layout, second[-1][0], chain[-1][0])


def is_wish_number(wishes, thing):
    """Whether it is the number of one of the wishes."""
    return is_whole(thing, 0, len(wishes) - 1)


def is_bar_alone(layout, now, wishes, thing):
    """Whether it is a bar of one wish, whatever is met ahead of it."""
    if not is_tuple_of(thing, 3, 3) or thing[0] != "bar" or not is_wish_number(wishes, thing[1]):
        return False
    return is_paper(layout, now, wishes[thing[1]], thing[2])


def is_bar_behind(layout, wishes, thing):
    """Whether it is a bar of one wish behind another one with a lesser number."""
    if not is_tuple_of(thing, 3, 3) or thing[0] != "bar" or not is_wish_number(wishes, thing[1]):
        return False
    word, n, paper = thing
    if not is_tuple_of(paper, 4, 4) or paper[0] != "pair" or not is_whole(paper[1], 0, n - 1):
        return False
    return is_pair(layout, wishes[paper[1]], wishes[n], paper[2], paper[3])


def is_ring_link(layout, wishes, thing):
    """Whether it is a tuple (m, chain, n, second) by which wish n has to come ahead of wish m."""
    if not is_tuple_of(thing, 4, 4):
        return False
    m, chain, n, second = thing
    if not is_wish_number(wishes, m) or not is_wish_number(wishes, n) or m == n:
        return False
    return is_pair(layout, wishes[m], wishes[n], chain, second)


def is_wish_ring(layout, wishes, thing):
    """Whether it is a ring of wishes each of which has to come ahead of the one ahead in the ring."""
    if not is_tuple_of(thing, 2, 2) or thing[0] != "ring" or not isinstance(thing[1], list):
        return False
    links = thing[1]
    if not 2 <= len(links) <= 10:
        return False
    if not all(is_ring_link(layout, wishes, link) for link in links):
        return False
    return all(links[k - 1][2] == link[0] for k, link in enumerate(links))
