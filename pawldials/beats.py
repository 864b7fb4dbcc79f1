"""The quickest walk to a wish that is met by strength 1, beat by beat."""

from pawldials.closing import given_by
from pawldials.errors import Never, NoBeat, NoDial, NoNumber, TooStrong
from pawldials.graph import Graph
from pawldials.nearest import check_walk_to
from pawldials.pacing import Pace
from pawldials.plain import is_count, is_whole
from pawldials.reaching import told_from
from pawldials.ways import Ways


def goal_of(house, standing, wish):
    """The nearest numbers; refused where no walk of strength 1 leads there."""
    check_walk_to(house, standing, wish)
    told = told_from(given_by(Ways(Graph(house)), wish), standing)
    if told is None:
        raise Never("no walk leads there")
    if told[2] > 1:
        raise TooStrong(told[2])
    return told[0]


def quickest(house, standing, wish):
    """The fewest beats by which the wish is met."""
    numbers = goal_of(house, standing, wish)
    pace = Pace(Graph(house), standing, numbers)
    for at, end in enumerate(pace.ends):
        pace.go_to(at, end)
    return pace.beats


def at_beat(house, standing, wish, t):
    """The numbers of the early walk behind so many beats."""
    numbers = goal_of(house, standing, wish)
    if not is_count(t):
        raise NoBeat("no whole number from 0 on")
    pace = Pace(Graph(house), standing, numbers)
    pace.go_beats(t)
    return pace.numbers()


def beat_of(house, standing, wish, name, number):
    """The beat of the early walk behind which the dial first stands at the number."""
    numbers = goal_of(house, standing, wish)
    graph = Graph(house)
    if name not in graph.names:
        raise NoDial("no dial of this house")
    place = graph.names.index(name)
    here, there = standing[place], numbers[place]
    if not is_whole(number, min(here, there), max(here, there)):
        raise NoNumber("no number through which the dial goes")
    if number == here:
        return 0
    pace = Pace(graph, standing, numbers)
    node = graph.spots[name] if there > here else graph.spots[name] + 1
    at = pace.nodes.index(node)
    pace.go_to(at, abs(number - here))
    return pace.beats
