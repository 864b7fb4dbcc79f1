"""Walks that meet a wish, as cheap and as weak as can be."""

from pawldials.binding import given_alone
from pawldials.closing import given_by
from pawldials.errors import Never, TooLong
from pawldials.graph import Graph
from pawldials.layout import Layout
from pawldials.nearest import check_walk_to
from pawldials.reaching import can_reach, nodes_turned, places_turned, pulled, worth_at
from pawldials.running import run_end
from pawldials.walks import all_hold
from pawldials.ways import Ways


class Walker:
    """One that goes from a standing to the numbers to which a wish pulls, each place once."""

    def __init__(self, ways, layout, standing, goal, most):
        self.ways = ways
        self.layout = layout
        self.here = standing
        self.goal = goal
        self.most = most
        self.walk = []
        self.steps = None

    def go(self, thing, numbers):
        """Do one thing of the walk that leads to these numbers."""
        if len(self.walk) == self.most:
            raise TooLong(self.most)
        self.walk.append(thing)
        self.here = numbers

    def run_each(self):
        """Turn each dial alone as far as it goes; whether one was turned."""
        turned = False
        for at, name in enumerate(self.layout.names):
            if self.here[at] == self.goal[at]:
                continue
            end = run_end(self.layout, self.layout.by_names(self.here), name, self.goal[at])
            if end != self.here[at]:
                self.go(("run", name, end), self.here[:at] + (end,) + self.here[at + 1:])
                turned = True
        return turned

    def least_steps(self):
        """How far each dial is turned by the smallest of the least heaves that turn one on by one place.

        The smallest one is a single ring: each dial that it turns could else be turned by less.
        """
        found = None
        for node in nodes_turned(self.here, self.goal):
            told = given_alone(self.ways, node, worth_at(self.here, node) + 1)
            numbers = pulled(told, self.here)
            size = places_turned(self.here, numbers)
            if found is None or size < found[0]:
                found = (size, numbers)
        return [there - here for here, there in zip(self.here, found[1])]

    def behind_steps(self):
        """The numbers behind one more heave like the last one."""
        return tuple([here + step for here, step in zip(self.here, self.steps)])

    def goes_on(self, numbers):
        """Whether these numbers are a standing that lies between here and the goal."""
        for here, there, end in zip(self.here, numbers, self.goal):
            if not min(here, end) <= there <= max(here, end):
                return False
        return all_hold(self.layout, self.layout.by_names(numbers))

    def heave(self):
        """Turn one ring at once: one like the last, where that goes, since it is no greater and soon found."""
        if self.steps is None or not self.goes_on(self.behind_steps()):
            self.steps = self.least_steps()
        numbers = self.behind_steps()
        turns = [(name, there) for name, there, step in zip(self.layout.names, numbers, self.steps) if step != 0]
        self.go(("heave", tuple(turns)), numbers)

    def arrive(self):
        """Go all the way."""
        while self.here != self.goal:
            if not self.run_each():
                self.heave()
        return self.walk


def heaves(house, standing, wish, *, most=500):
    """A walk to nearest's numbers, of its price and its strength."""
    check_walk_to(house, standing, wish)
    ways = Ways(Graph(house))
    told = given_by(ways, wish)
    if not can_reach(told, standing):
        raise Never("no walk leads there")
    return Walker(ways, Layout(house), standing, pulled(told, standing), most).arrive()
