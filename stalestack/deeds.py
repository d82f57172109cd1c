"""Which values and deeds can be, and what deeds answer one after another."""

from stalestack.errors import BadDeed, BadPile

MOST_VALUES = 6
HIGHEST_VALUE = 99

POP = ("pop",)


def is_value(number):
    """Whether the number can lie on the pile."""
    return 0 <= number <= HIGHEST_VALUE


def is_deed(deed):
    """Whether the tuple is a push of a value or a pop."""
    if deed == POP:
        return True
    return len(deed) == 2 and deed[0] == "push" and is_value(deed[1])


def check_values(values):
    """Refuse with BadPile what cannot be the values at first."""
    # Too many is told ahead of a bad value, wherever that one lies.
    if len(values) > MOST_VALUES:
        raise BadPile(MOST_VALUES)
    for at, value in enumerate(values):
        if not is_value(value):
            raise BadPile(at)


def first_bad_deed(deeds):
    """The number of the first deed that cannot be, or None if all can."""
    for number, deed in enumerate(deeds):
        if not is_deed(deed):
            return number
    return None


def do_deed(pile, deed):
    """Do the deed to the pile, the top of which is its last value, and answer it."""
    if deed != POP:
        pile.append(deed[1])
        return "done"
    if len(pile) == 0:
        return None
    return pile.pop()


def serial(values, deeds):
    """The answers of the deeds done one after another, and the values left, the lowest first."""
    check_values(values)
    bad = first_bad_deed(deeds)
    if bad is not None:
        raise BadDeed(0, bad)
    pile = list(values)
    answers = []
    for deed in deeds:
        answers.append(do_deed(pile, deed))
    return answers, pile
