"""Which programs and rules can be, and in which order what cannot be is refused."""

from stalestack.deeds import check_values, first_bad_deed
from stalestack.errors import BadDeed, BadRule

MOST_HANDS = 3
MOST_DEEDS = 4
MOST_COUNTS = 15


def check_programs(programs):
    """Refuse with BadDeed what cannot be the programs of the hands."""
    if not 1 <= len(programs) <= MOST_HANDS:
        raise BadDeed(len(programs), 0)
    for hand, deeds in enumerate(programs):
        # Too many is told ahead of a bad deed of the same hand, wherever that one stands.
        if len(deeds) > MOST_DEEDS:
            raise BadDeed(hand, MOST_DEEDS)
        bad = first_bad_deed(deeds)
        if bad is not None:
            raise BadDeed(hand, bad)


def are_rising_hands(hands, many):
    """Whether the numbers rise, and each is one of so many hands."""
    lowest = 0
    for hand in hands:
        if not lowest <= hand < many:
            return False
        lowest = hand + 1
    return True


def is_rule(rule, many):
    """Whether the tuple is a rule for so many hands."""
    if rule == ("keeps",):
        return True
    if len(rule) != 2:
        return False
    word, told = rule
    if word == "counts":
        return isinstance(told, int) and 1 <= told <= MOST_COUNTS
    return word == "marks" and isinstance(told, tuple) and are_rising_hands(told, many)


def check_pile_and_programs(values, programs):
    """Refuse with BadPile, then with BadDeed."""
    check_values(values)
    check_programs(programs)


def check_all(values, programs, rule):
    """Refuse with BadPile, then with BadDeed, then with BadRule."""
    check_pile_and_programs(values, programs)
    # A rule can name only hands that are there, so the programs come ahead of it.
    if not is_rule(rule, len(programs)):
        raise BadRule("no rule for these hands")
