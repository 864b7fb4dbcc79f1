"""How dials go beat by beat to the numbers to which a wish pulls, each place as early as can be.

Each turned dial is known here by its place in the list of the nodes turned; what counts is how
many places it has turned so far. Each place may be turned alone once all ahead of it are turned,
since no two places here are bound.
"""

from pawldials.reaching import is_turned, nodes_turned, worth_at


def first_leads(graph, nodes, standing, wide):
    """How many places each may have turned behind a beat, more than each other one had ahead of it.

    So much as wide holds nothing back.
    """
    rows = [[1 if node == other else wide for other in nodes] for node in nodes]
    for source, target, weight, number in graph.edges:
        if source in nodes and target in nodes:
            row = rows[nodes.index(source)]
            at = nodes.index(target)
            row[at] = min(row[at], worth_at(standing, target) - worth_at(standing, source) - weight)
    return rows


def stepped(rows, places):
    """How many places each may have turned at the most, by how many all had."""
    return [min([lead + many for lead, many in zip(row, places)]) for row in rows]


def twice(rows, wide):
    """How many places each may be ahead behind twice as many beats."""
    columns = [[row[at] for row in rows] for at in range(len(rows))]
    return [[min(wide, told) for told in stepped(columns, row)] for row in rows]


def locks_between(graph, nodes, standing, numbers):
    """Tuples (at, last, key, many): the one turns no more than last places till the key has turned so many.

    An either-or of one dial says nothing where no two of its places are bound.
    """
    locks = []
    for source, threshold, target, much, number in graph.ones:
        if source == target or not is_turned(standing, numbers, source, threshold):
            continue
        if is_turned(standing, numbers, target, much):
            last = threshold - 1 - worth_at(standing, source)
            locks.append((nodes.index(source), last, nodes.index(target), much - worth_at(standing, target)))
    return locks


class Pace:
    """One that goes the early walk, many beats at once: beats are gone, places[at] are turned."""

    def __init__(self, graph, standing, numbers):
        self.nodes = nodes_turned(standing, numbers)
        self.standing = standing
        self.ends = [worth_at(numbers, node) - worth_at(standing, node) for node in self.nodes]
        self.total = sum(self.ends)
        self.locks = locks_between(graph, self.nodes, standing, numbers)
        self.leads = self.all_leads(graph)
        self.places = [0] * len(self.nodes)
        self.beats = 0

    def all_leads(self, graph):
        """The leads behind 1, 2, 4 beats and so on; no walk takes more beats than it turns places."""
        wide = max(self.ends, default=0)
        told = [first_leads(graph, self.nodes, self.standing, wide)]
        while len(told) < self.total.bit_length():
            told.append(twice(told[-1], wide))
        return told

    def shut(self):
        """The locks that hold something back."""
        return [lock for lock in self.locks if self.places[lock[2]] < lock[3]]

    def leaps(self):
        """Tuples (beats, rows, tops) of 1, 2, 4 beats and so on, none of which opens a lock."""
        tops = list(self.ends)
        for at, last, key, many in self.shut():
            tops[at] = min(tops[at], last)
        told = []
        beats = 1
        for rows in self.leads:
            told.append((beats, rows, tops))
            tops = [min(top, many) for top, many in zip(tops, stepped(rows, tops))]
            beats = beats * 2
        return told

    def leapt(self, leap):
        """How many places are turned behind such a leap."""
        beats, rows, tops = leap
        return [min(top, many) for top, many in zip(tops, stepped(rows, self.places))]

    def go_on(self, last, marks):
        """Go on to the first beat behind which a lock opens or a mark (at, many) is reached, at most to the last."""
        watched = marks + [lock[2:] for lock in self.shut()]
        leaps = self.leaps()
        for leap in reversed(leaps):
            then = self.leapt(leap)
            if self.beats + leap[0] <= last and not any([then[at] >= many for at, many in watched]):
                self.places = then
                self.beats += leap[0]
        if self.beats < last:
            self.places = self.leapt(leaps[0])
            self.beats += 1

    def go_beats(self, last):
        """Go so many beats, but none behind the end."""
        last = min(last, self.total)
        while self.beats < last:
            self.go_on(last, [])

    def go_to(self, at, many):
        """Go on till so many places are turned there."""
        while self.places[at] < many:
            self.go_on(self.total, [(at, many)])

    def numbers(self):
        """The numbers at which the dials stand now."""
        told = list(self.standing)
        for node, many in zip(self.nodes, self.places):
            told[node // 2] += -many if node & 1 else many
        return tuple(told)
