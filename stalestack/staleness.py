"""By which weavings an exchange is stale, and by which rules none is."""

from itertools import combinations

from stalestack.checks import MOST_COUNTS, check_all, check_pile_and_programs
from stalestack.deeds import POP
from stalestack.steps import first_state, step, was_stale


def is_safe_rule(programs, rule):
    """Whether by such a rule no exchange ever is stale, whatever the deeds are."""
    if rule[0] == "keeps":
        return True
    if rule[0] == "counts":
        return rule[1] > sum([len(deeds) for deeds in programs])
    return len(rule[1]) == len(programs)


def may_be_stale(programs):
    """Whether, while a hand is at a pop, the others can pop the cell that it read and push it anew."""
    for hand, deeds in enumerate(programs):
        others = [deed for at, row in enumerate(programs) if at != hand for deed in row]
        if POP in deeds and POP in others and any([deed != POP for deed in others]):
            return True
    return False


def without_value(deed):
    """The deed, as a push of 0 if it is one."""
    if deed == POP:
        return POP
    return ("push", 0)


def weaving_to(state, came):
    """The hands whose steps led to the state, the first one first."""
    weaving = []
    while came[state] is not None:
        state, hand = came[state]
        weaving.append(hand)
    weaving.reverse()
    return weaving


def search(state, programs, rule):
    """The first weaving from the state on to a stale exchange, the shorter and then the lesser first, or None.

    Each state is come to first by the first weaving to it, for the states of a level are gone
    through in the order of their weavings. A step that rests leads to no other state.
    """
    came = {state: None}
    level = [state]
    while len(level) > 0:
        behind = []
        for old in level:
            for hand in range(len(programs)):
                told, new = step(old, programs, rule, hand)
                if was_stale(told, new, hand):
                    return weaving_to(old, came) + [hand]
                if new not in came:
                    came[new] = (old, hand)
                    behind.append(new)
        level = behind
    return None


def first_stale(many, programs, rule):
    """The shortest and least weaving to a stale exchange on a pile of so many values, or None."""
    if is_safe_rule(programs, rule) or not may_be_stale(programs):
        return None
    # What is stale does not hang on the values: with all of them 0 there are fewer states.
    plain = [[without_value(deed) for deed in deeds] for deeds in programs]
    return search(first_state([0] * many, len(programs)), plain, rule)


def stale(values, programs, rule):
    """The shortest weaving to a stale exchange, of several the least list, or None."""
    check_all(values, programs, rule)
    return first_stale(len(values), programs, rule)


def safe_counts(values, programs):
    """The counts, rising, by which no exchange is stale."""
    check_pile_and_programs(values, programs)
    counts = range(1, MOST_COUNTS + 1)
    return [m for m in counts if first_stale(len(values), programs, ("counts", m)) is None]


def least_marks(values, programs):
    """The fewest hands by whose marks no exchange is stale, of several as few the least tuple."""
    check_pile_and_programs(values, programs)
    for many in range(len(programs)):
        for hands in combinations(range(len(programs)), many):
            if first_stale(len(values), programs, ("marks", hands)) is None:
                return hands
    # By the marks of all hands none is stale.
    return tuple(range(len(programs)))
