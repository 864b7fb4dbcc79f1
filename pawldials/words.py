"""Words of rows: how names, numbers, sayings and rules are written."""

from pawldials.kinds import PAIR_RULES, is_name

MOST_FIGURES = 60
SIGNS = {"least": ">=", "most": "<="}


def written_saying(saying):
    """The word of a saying."""
    name, sort, i = saying
    return f"{name}{SIGNS[sort]}{i}"


def written_rule(rule):
    """The row of a rule."""
    if rule[0] == "one":
        return f"one {written_saying(rule[1])} {written_saying(rule[2])}"
    word, a, b, c = rule
    return f"{word} {a} {b} {c}"


def written_numbers(numbers):
    """Numbers parted by blanks."""
    return " ".join([str(number) for number in numbers])


def read_number(word):
    """The number that the word writes; None where it writes none."""
    figures = word[1:] if word.startswith("-") else word
    if not 1 <= len(figures) <= MOST_FIGURES or not all("0" <= sign <= "9" for sign in figures):
        return None
    if figures.startswith("0") and word != "0":
        return None
    return int(word)


def read_numbers(words):
    """The list of the numbers that the words write; None where one writes none."""
    numbers = [read_number(word) for word in words]
    return None if None in numbers else numbers


def read_saying(word):
    """The saying that the word writes, of whatever name and number; None where it writes none."""
    for sort in SIGNS:
        name, sign, figures = word.partition(SIGNS[sort])
        i = read_number(figures)
        if is_name(name) and i is not None:
            return (name, sort, i)
    return None


def read_sayings(words):
    """The tuple of the sayings that the words write; None where one writes none."""
    sayings = [read_saying(word) for word in words]
    return None if None in sayings else tuple(sayings)


def read_rule(words):
    """The rule that these words write, of whatever names and numbers; None where they write none."""
    if len(words) == 3 and words[0] == "one":
        sayings = read_sayings(words[1:])
        return None if sayings is None else ("one",) + sayings
    if len(words) != 4 or words[0] not in PAIR_RULES:
        return None
    word, a, b, figures = words
    c = read_number(figures)
    if not is_name(a) or not is_name(b) or c is None:
        return None
    return (word, a, b, c)
