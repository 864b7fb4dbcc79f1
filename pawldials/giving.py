"""When a saying denies or gives another one, and what a rule gives of a saying."""


def fits_none(layout, saying):
    """Whether no number of its dial's span fits the saying."""
    name, sort, i = saying
    dial = layout.dials[name]
    return i > dial[2] if sort == "least" else i < dial[1]


def denies(layout, saying, other):
    """Whether the saying denies the other one.

    One that no number fits holds nowhere, so it denies whatever there is, of each dial.
    """
    if fits_none(layout, saying):
        return True
    if saying[0] != other[0]:
        return False
    dial = layout.dials[saying[0]]
    least, greatest = dial[1], dial[2]
    for name, sort, i in (saying, other):
        if sort == "least":
            least = max(least, i)
        else:
            greatest = min(greatest, i)
    return least > greatest


def gives(saying, other):
    """Whether the saying gives the other one: by all whole numbers, whatever the span."""
    if saying[:2] != other[:2]:
        return False
    return saying[2] >= other[2] if saying[1] == "least" else saying[2] <= other[2]


def given_by_one(layout, rule, saying):
    """What an either-or gives: the one of its sayings where the other is denied."""
    word, first, second = rule
    told = []
    if denies(layout, saying, first):
        told.append(second)
    if denies(layout, saying, second):
        told.append(first)
    return told


def given(layout, rule, saying):
    """The list of the sayings that the rule gives of this one; their numbers may go beyond 10 ** 20."""
    if rule[0] == "one":
        return given_by_one(layout, rule, saying)
    word, a, b, c = rule
    name, sort, i = saying
    if word == "off":
        if name == a and sort == "least":
            return [(b, "least", i - c)]
        if name == b and sort == "most":
            return [(a, "most", i + c)]
        return []
    if sort == word or name not in (a, b):
        return []
    return [(b if name == a else a, word, c - i)]
