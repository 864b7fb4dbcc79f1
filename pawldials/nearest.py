"""The nearest standing that meets a wish, and the reasons for each turn and for each no."""

from pawldials.closing import given_by
from pawldials.errors import NoDial, NoReason
from pawldials.graph import Graph
from pawldials.houses import check_house, check_standing, check_wish
from pawldials.layout import Layout
from pawldials.papers import is_paper
from pawldials.reaching import can_reach, paper_against, pulled, told_from
from pawldials.ways import Ways


def check_walk_to(house, standing, wish):
    """Refuse what is no house, no standing, no wish, in this order."""
    check_house(house)
    check_standing(house, standing)
    check_wish(house, wish)


def nearest(house, standing, wish):
    """A tuple of the numbers of the nearest standing that meets the wish, the price and the least strength; or None."""
    check_walk_to(house, standing, wish)
    return told_from(given_by(Ways(Graph(house)), wish), standing)


def reason(house, standing, wish, name):
    """A chain from a saying of the wish to the number to which the dial has to be turned."""
    check_walk_to(house, standing, wish)
    graph = Graph(house)
    if name not in graph.names:
        raise NoDial("no dial of this house")
    told = given_by(Ways(graph), wish)
    if not can_reach(told, standing):
        raise NoReason("no walk leads there")
    at = graph.names.index(name)
    here, there = standing[at], pulled(told, standing)[at]
    if here == there:
        raise NoReason("the dial stays where it is")
    return told.chain_to(2 * at if there > here else 2 * at + 1)


def why(house, standing, wish):
    """A paper that bars every walk from the standing to the wish."""
    check_walk_to(house, standing, wish)
    paper = paper_against(Ways(Graph(house)), standing, wish)
    if paper is None:
        raise NoReason("a walk leads there")
    return paper


def bars(house, standing, wish, paper):
    """Whether it is a paper as why tells: then no walk leads there."""
    check_walk_to(house, standing, wish)
    layout = Layout(house)
    return is_paper(layout, layout.by_names(standing), wish, paper)
