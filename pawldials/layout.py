"""A house laid out by the names of its dials."""


def names_in(rule):
    """The names of the dials of which the rule speaks, each once."""
    if rule[0] != "one":
        return [rule[1], rule[2]]
    first, second = rule[1][0], rule[2][0]
    return [first] if first == second else [first, second]


class Layout:
    """The dials, and the rules that speak of each, by the dials' names."""

    def __init__(self, house):
        dials, rules = house
        self.names = [dial[0] for dial in dials]
        self.dials = {dial[0]: dial for dial in dials}
        self.rules = rules
        self.speaking = {name: [] for name in self.names}
        for rule in rules:
            for name in names_in(rule):
                self.speaking[name].append(rule)

    def by_names(self, numbers):
        """A dict of these numbers by the names of their dials."""
        return dict(zip(self.names, numbers))

    def numbers_of(self, now):
        """The numbers of such a dict, in the dials' order."""
        return tuple([now[name] for name in self.names])
