"""The sayings of a house as nodes with worths.

Each dial has two nodes: 2 * k of its "least" sayings, worth i, and 2 * k + 1 of its "most"
sayings, worth -i. So a greater worth always says more, and the saying just against worth v
at a node is worth 1 - v at the node's opposite one, which is node ^ 1.
"""


class Graph:
    """What a worth at one node gives at others, by each rule.

    edges are tuples (source, target, weight, rule): of a worth at the source this much more at
    the target. ones are tuples (source, threshold, target, worth, rule): of so much at the source
    a fixed worth at the target. Those that can give nothing new in the dials' spans are left out,
    so all weights are small enough for every number on a way to be that of a saying.
    """

    def __init__(self, house):
        self.dials, self.rules = house
        self.names = [dial[0] for dial in self.dials]
        self.spots = {name: 2 * k for k, name in enumerate(self.names)}
        self.lows = []
        self.highs = []
        for dial in self.dials:
            self.lows.extend([dial[1], -dial[2]])
            self.highs.extend([dial[2], -dial[1]])
        self.edges = []
        self.ones = []
        for number, rule in enumerate(self.rules):
            if rule[0] == "one":
                self.take_one(number, rule)
            else:
                self.take_pair(number, rule)

    def node_of(self, saying):
        """The node and the worth of a saying."""
        name, sort, i = saying
        node = self.spots[name]
        return (node, i) if sort == "least" else (node + 1, -i)

    def saying_of(self, node, worth):
        """The saying of this worth at the node."""
        name = self.names[node // 2]
        return (name, "most", -worth) if node & 1 else (name, "least", worth)

    def add_edge(self, source, target, weight, number):
        """Keep an edge that can give more than the span does."""
        if self.highs[source] + weight > self.lows[target]:
            self.edges.append((source, target, weight, number))

    def take_pair(self, number, rule):
        """The edges of a rule of the first three sorts: each stands for its opposite way, too."""
        word, a, b, c = rule
        source, target, weight = self.spots[a], self.spots[b], -c
        if word == "most":
            target = target ^ 1
        elif word == "least":
            source = source ^ 1
            weight = c
        self.add_edge(source, target, weight, number)
        self.add_edge(target ^ 1, source ^ 1, weight, number)

    def add_one(self, number, denied, told):
        """Keep what an either-or gives where the first saying is denied."""
        node, worth = self.node_of(denied)
        source = node ^ 1
        threshold = max(1 - worth, self.lows[source])
        target, much = self.node_of(told)
        # One place beyond the span says as much as any number there, and stays small.
        much = min(much, self.highs[target] + 1)
        if threshold <= self.highs[source] and much > self.lows[target]:
            self.ones.append((source, threshold, target, much, number))

    def take_one(self, number, rule):
        """Both ways of an either-or."""
        word, first, second = rule
        self.add_one(number, first, second)
        if first != second:
            self.add_one(number, second, first)
