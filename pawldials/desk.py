"""A desk that is told rows and answers each with a text."""

from pawldials.beats import quickest
from pawldials.errors import NoRow, NotYet
from pawldials.finding import some_standing, spans
from pawldials.houses import MOST_DIALS, MOST_SAYINGS
from pawldials.keepers import Keeper
from pawldials.kinds import is_name
from pawldials.ruling import follows
from pawldials.texts import read_house, show_house
from pawldials.words import read_number, read_numbers, read_rule, read_sayings, written_numbers

HOUSE_ROW = "house\n"
DONE = "ok"
NONE = "-"


def no_words(words):
    """An empty tuple of no words; None of others."""
    return None if words else ()


def wish_words(words):
    """A tuple of the wish that the words write; None where they write none."""
    wish = read_sayings(words) if len(words) <= MOST_SAYINGS else None
    return None if wish is None else (wish,)


def rule_words(words):
    """A tuple of the rule that the words write; None where they write none."""
    rule = read_rule(words)
    return None if rule is None else (rule,)


def keeper_words(words):
    """A tuple of the strength and the standing's numbers that the words write; None where they write none."""
    numbers = read_numbers(words) if 2 <= len(words) <= MOST_DIALS + 1 else None
    return None if numbers is None else (numbers[0], tuple(numbers[1:]))


def earn_words(words):
    """A tuple of the number that the single word writes; None where it writes none."""
    number = read_number(words[0]) if len(words) == 1 else None
    return None if number is None else (number,)


def turn_words(words):
    """A tuple of the name and the number that the words write; None where they write none."""
    if len(words) != 2 or not is_name(words[0]):
        return None
    number = read_number(words[1])
    return None if number is None else (words[0], number)


def tell_show(house, parts):
    """The text of the house."""
    return show_house(house)


def tell_spans(house, parts):
    """The span of each dial while the wish is met."""
    found = spans(house, parts[0])
    if found is None:
        return NONE
    return "; ".join([f"{name} {written_numbers(found[name])}" for name in found])


def tell_some(house, parts):
    """The numbers of any standing."""
    told = some_standing(house)
    return written_numbers(told[1]) if told[0] == "standing" else NONE


def tell_follows(house, parts):
    """Whether the rule follows, else where it doesn't hold."""
    numbers = follows(house, parts[0])
    return "yes" if numbers is None else written_numbers(numbers)


def tell_undo(keeper, parts):
    """Take the last deed back."""
    keeper.undo()
    return DONE


def tell_again(keeper, parts):
    """Do again what was taken back last."""
    keeper.again()
    return DONE


def tell_stand(keeper, parts):
    """The numbers at which the keeper stands."""
    return written_numbers(keeper.stand_now())


def tell_coins(keeper, parts):
    """The keeper's coins."""
    return str(keeper.coins_now())


def tell_paid(keeper, parts):
    """What the keeper paid."""
    return str(keeper.paid_now())


def tell_can(keeper, parts):
    """The price, the strength and the numbers by which the wish is met."""
    told = keeper.can_meet(parts[0])
    if told is None:
        return NONE
    numbers, price, strength = told
    return f"{price} {strength} {written_numbers(numbers)}"


def tell_beats(keeper, parts):
    """The fewest beats by which the wish is met."""
    return str(quickest(keeper.house_now(), keeper.stand_now(), parts[0]))


# What each row's words have to write, by its first word.
READERS = {
    "show": no_words,
    "spans": wish_words,
    "some": no_words,
    "follows": rule_words,
    "keeper": keeper_words,
    "earn": earn_words,
    "turn": turn_words,
    "meet": wish_words,
    "put": rule_words,
    "strike": rule_words,
    "undo": no_words,
    "again": no_words,
    "stand": no_words,
    "coins": no_words,
    "paid": no_words,
    "can": wish_words,
    "beats": wish_words,
}
OF_HOUSE = {"show": tell_show, "spans": tell_spans, "some": tell_some, "follows": tell_follows}
OF_KEEPER = {
    "undo": tell_undo,
    "again": tell_again,
    "stand": tell_stand,
    "coins": tell_coins,
    "paid": tell_paid,
    "can": tell_can,
    "beats": tell_beats,
}


def read_row(word, words):
    """What the words behind the first one write; refused where they are none of its row."""
    if word not in READERS:
        raise NoRow("no row begins so")
    reader = READERS[word]
    parts = reader(words)
    if parts is None:
        raise NoRow("other words than the row has")
    return parts


class Desk:
    """A desk at which there may be a house, and a keeper of it."""

    def __init__(self):
        self.house = None
        self.keeper = None

    def say(self, row):
        """Answer a row."""
        if not isinstance(row, str):
            raise NoRow("no text")
        if row.startswith(HOUSE_ROW):
            self.house = read_house(row[len(HOUSE_ROW):])
            self.keeper = None
            return DONE
        word, *words = row.split(" ")
        parts = read_row(word, words)
        if self.house is None:
            raise NotYet("no house so far")
        if word == "keeper":
            self.keeper = Keeper(self.house, parts[1], parts[0])
            return DONE
        if word in OF_HOUSE:
            telling = OF_HOUSE[word]
            return telling(self.house if self.keeper is None else self.keeper.house_now(), parts)
        return self.say_keeper(word, parts)

    def say_keeper(self, word, parts):
        """Answer what is asked of the keeper, or have it do a deed."""
        if self.keeper is None:
            raise NotYet("no keeper so far")
        if word in OF_KEEPER:
            telling = OF_KEEPER[word]
            return telling(self.keeper, parts)
        self.keeper.do((word,) + parts)
        return DONE
