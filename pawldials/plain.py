"""Plain values: whole numbers between bounds, and copies that are kept."""


def is_whole(thing, low, high):
    """Whether it is a whole number, no truth, from low to high."""
    if isinstance(thing, bool) or not isinstance(thing, int):
        return False
    return low <= thing <= high


def is_count(thing):
    """Whether it is a whole number from 0 on, however great."""
    return isinstance(thing, int) and not isinstance(thing, bool) and thing >= 0


def is_tuple_of(thing, least, most):
    """Whether it is a tuple of at least and at most so many things."""
    return isinstance(thing, tuple) and least <= len(thing) <= most


def kept(thing):
    """A copy that stays as it is, whatever becomes of the lists and dicts in the thing."""
    if isinstance(thing, list):
        return [kept(part) for part in thing]
    if isinstance(thing, tuple):
        return tuple([kept(part) for part in thing])
    if isinstance(thing, dict):
        return {key: kept(thing[key]) for key in thing}
    return thing
