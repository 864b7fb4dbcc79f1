"""What a rule gives of a saying."""


def denies(dial, saying, other):
    """Whether no number of the dial's span fits both of its sayings."""
    least, greatest = dial[1], dial[2]
    for name, sort, i in (saying, other):
        if sort == "least":
            least = max(least, i)
        else:
            greatest = min(greatest, i)
    return least > greatest


def given_by_one(layout, rule, saying):
    """What an either-or gives: the one of its sayings where the other is denied."""
    word, first, second = rule
    name = saying[0]
    dial = layout.dials[name]
    told = []
    if first[0] == name and denies(dial, saying, first):
        told.append(second)
    if second[0] == name and denies(dial, saying, second):
        told.append(first)
    return told


def given(layout, rule, saying):
    """The list of the sayings that the rule gives of this one, which some number fits."""
    if rule[0] == "one":
        return given_by_one(layout, rule, saying)
    word, a, b, c = rule
    name, sort, i = saying
    if word == "off":
        if name == a and sort == "least":
            return [(b, "least", i - c)]
        if name == b and sort == "most":
            return [(a, "most", i + c)]
        return []
    if sort == word or name not in (a, b):
        return []
    return [(b if name == a else a, word, c - i)]
