"""All that is given by some sayings, and the chains by which it is."""


class Given:
    """What is given by the sayings said so far: best[node] is the greatest worth, one below the span's where none is.

    Each root is a tuple (node, worth, by, behind) from which the longest ways go: a saying that was
    said (by and behind None), or what an either-or gave; behind is then a tuple of the root and the
    node that gave it. No either-or gives a root twice on one chain, so a chain of 12 dials and 40
    rules has at most 81 roots with a way of at most 23 edges each.
    """

    def __init__(self, ways):
        self.ways = ways
        self.best = [low - 1 for low in ways.graph.lows]
        self.root_at = [None for low in ways.graph.lows]
        self.roots = []

    def copied(self):
        """One that knows as much, and goes its own way."""
        told = Given(self.ways)
        told.best = list(self.best)
        told.root_at = list(self.root_at)
        told.roots = list(self.roots)
        return told

    def take_root(self, node, worth, by, behind):
        """Take in what the longest ways from here give."""
        best = self.best
        root = len(self.roots)
        self.roots.append((node, worth, by, behind))
        for target, weight in self.ways.reach[node]:
            if worth + weight > best[target]:
                best[target] = worth + weight
                self.root_at[target] = root

    def say(self, node, worth):
        """Let a saying be said, one beyond the span no further than it has to be."""
        self.take_root(node, min(worth, self.ways.graph.highs[node] + 1), None, None)
        best = self.best
        more = True
        while more:
            more = False
            for source, threshold, target, much, number in self.ways.graph.ones:
                if best[source] >= threshold and much > best[target]:
                    self.take_root(target, much, number, (self.root_at[source], source))
                    more = True

    def say_all(self, sayings):
        """Let all these sayings be said."""
        for saying in sayings:
            node, worth = self.ways.graph.node_of(saying)
            self.say(node, worth)

    def beyond(self):
        """The first node with more than its span has, else None."""
        for node, worth in enumerate(self.best):
            if worth > self.ways.graph.highs[node]:
                return node
        return None

    def clashes(self):
        """Whether no standing fits all that is given."""
        best = self.best
        if self.beyond() is not None:
            return True
        return any(best[node] + best[node + 1] > 0 for node in range(0, len(best), 2))

    def leg_of(self, root, end):
        """The links from a root to the node to which it leads."""
        node, worth, by, behind = self.roots[root]
        graph = self.ways.graph
        links = [(graph.saying_of(node, worth), by)]
        for source, target, weight, number in self.ways.legs[node][end][1]:
            worth += weight
            links.append((graph.saying_of(target, worth), number))
        return links

    def chain_to(self, node):
        """The chain from a saying that was said to what is given at the node."""
        legs = []
        ahead = (self.root_at[node], node)
        while ahead is not None:
            root, end = ahead
            legs.append(self.leg_of(root, end))
            ahead = self.roots[root][3]
        return [link for leg in reversed(legs) for link in leg]


def given_by(ways, sayings):
    """All that is given by these sayings."""
    told = Given(ways)
    told.say_all(sayings)
    return told
