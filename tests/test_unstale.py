"""Point 10: what holds as long as no exchange was stale, and by which rules none ever is."""

import random
import unittest

from stalestack.machine import Machine
from tests.model import POP, model_behind, observed, programs_of, push

KEEPS = ("keeps",)


def done_one_after_another(values, programs, order):
    """What the deeds of the order answer each hand, and the values that they leave."""
    pile = list(values)
    answers = [[] for _ in programs]
    for hand, number in order:
        deed = programs[hand][number]
        if deed != POP:
            pile.append(deed[1])
            answers[hand].append("done")
        else:
            answers[hand].append(pile.pop() if pile else None)
    return answers, pile


class Watched:
    """A machine, and the cells that hands have by what its steps told."""

    def __init__(self, values, programs, rule):
        self.values = values
        self.programs = programs
        self.machine = Machine(values, programs, rule)
        self.held = {}
        self.waiting = set()

    def turn(self, hand):
        top = self.machine.top_now()[0]
        told = self.machine.turn(hand)
        if told[0] == "takes":
            self.held[hand] = told[1]
        elif told[0] == "exchanges":
            self.held[hand] = top
            self.waiting.add(hand)
        elif told[0] == "ends":
            self.held.pop(hand, None)
            self.waiting.discard(hand)
        return told


class UnstaleCase(unittest.TestCase):
    def check(self, watched, what):
        """What holds as long as no exchange was stale."""
        machine = watched.machine
        cells = machine.pile() + machine.free() + list(watched.held.values())
        self.assertEqual(sorted(cells), list(range(1, len(machine.nexts()) + 1)), what)
        answers, pile = done_one_after_another(watched.values, watched.programs, machine.order())
        self.assertEqual(machine.pile_values(), pile[::-1], what)
        for hand, told in enumerate(answers):
            # A pop that has exchanged and not ended has still to answer.
            if hand in watched.waiting:
                told = told[:-1]
            self.assertEqual(machine.answers(hand), told, what)

    def go_through(self, values, programs, rule, may_be_stale):
        """Check each state that any weaving leads to ahead of a stale exchange; tell how many there are."""
        seen = set()
        open_ones = [()]
        while open_ones:
            weaving = open_ones.pop()
            for hand in range(len(programs)):
                watched = Watched(values, programs, rule)
                for other in weaving:
                    watched.turn(other)
                if watched.turn(hand) == ("rests",):
                    continue
                longer = weaving + (hand,)
                if watched.machine.is_stale():
                    self.assertTrue(may_be_stale, (values, programs, rule, longer))
                    continue
                told = observed(watched.machine, len(programs))
                key = (model_behind(values, programs, rule, longer).key(), repr(told))
                if key not in seen:
                    seen.add(key)
                    self.check(watched, (values, programs, rule, longer))
                    open_ones.append(longer)
        return len(seen)


class EveryStateTest(UnstaleCase):
    def test_one_hand(self):
        for size in range(5):
            for programs in programs_of((size,)):
                for rule in (KEEPS, ("counts", 1), ("counts", 2), ("marks", ()), ("marks", (0,))):
                    for many in (0, 2):
                        self.go_through([1, 2][:many], programs, rule, False)

    def test_two_hands(self):
        for sizes in ((1, 1), (1, 2)):
            for programs in programs_of(sizes):
                for rule in (KEEPS, ("counts", 1), ("marks", ()), ("marks", (1,)), ("marks", (0, 1))):
                    for many in (0, 1, 2):
                        self.go_through([1, 2][:many], programs, rule, True)

    def test_two_hands_by_rules_that_forbid_staleness(self):
        programs = [[POP], [POP, POP, push(9)]]
        for rule in (KEEPS, ("counts", 5), ("counts", 15), ("marks", (0, 1))):
            self.go_through([1, 2], programs, rule, False)
        programs = [[POP, push(8)], [POP, push(9)]]
        for rule in (KEEPS, ("counts", 5), ("counts", 15), ("marks", (0, 1))):
            self.go_through([1, 2], programs, rule, False)

    def test_three_hands_by_rules_that_forbid_staleness(self):
        programs = [[POP], [POP], [push(9)]]
        for rule in (KEEPS, ("counts", 4), ("marks", (0, 1, 2))):
            self.go_through([1], programs, rule, False)

    def test_ahead_of_a_stale_exchange(self):
        programs = [[POP], [POP, POP, push(9)]]
        for rule in (("counts", 1), ("counts", 3), ("marks", ()), ("marks", (1,))):
            self.go_through([1, 2], programs, rule, True)


class LongWeavingsTest(UnstaleCase):
    def hands(self, chance, many):
        hands = []
        while len(hands) < 150:
            hands += [chance.randrange(many)] * chance.choice((1, 2, 4, 9))
        return hands

    def test_programs_of_many_deeds(self):
        chance = random.Random(3)
        for _ in range(600):
            many = chance.randrange(1, 4)
            # Each value is another one, so that none can be told in place of another.
            deeds = [POP if chance.randrange(5) > 1 else push(10 + k) for k in range(4 * many)]
            programs = [deeds[4 * hand:4 * hand + 4] for hand in range(many)]
            values = list(range(chance.randrange(7)))
            everyone = ("marks", tuple(range(many)))
            forbids = (KEEPS, everyone, ("counts", 4 * many + 1), ("counts", 15))
            rule = chance.choice(forbids + (("counts", 1), ("counts", 2), ("counts", 3), ("marks", ())))
            watched = Watched(values, programs, rule)
            for hand in self.hands(chance, many):
                watched.turn(hand)
                if watched.machine.is_stale():
                    self.assertNotIn(rule, forbids)
                    break
                self.check(watched, (values, programs, rule))


if __name__ == "__main__":
    unittest.main()
