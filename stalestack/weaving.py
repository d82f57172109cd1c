"""Weavings: which hands do a step, one after another."""

from stalestack.machine import Machine


def played(values, programs, rule, weaving):
    """What each step of the weaving does."""
    machine = Machine(values, programs, rule)
    return [machine.turn(hand) for hand in weaving]


def whole(values, programs, rule, weaving):
    """The answers, the order, the values and whether it was stale, behind the weaving and all that is left to do."""
    machine = Machine(values, programs, rule)
    hands = list(range(len(programs)))
    for hand in weaving:
        machine.turn(hand)
    while not machine.is_done():
        for hand in hands:
            machine.turn(hand)
    answers = [machine.answers(hand) for hand in hands]
    return (answers, machine.order(), machine.pile_values(), machine.is_stale())
