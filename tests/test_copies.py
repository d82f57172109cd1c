"""Point 1 for machines, weavings and staleness: what is handed in stays, what is given back is the asker's own."""

import copy
import unittest

from stalestack.errors import PileError
from stalestack.machine import Machine
from stalestack.staleness import least_marks, safe_counts, stale
from stalestack.weaving import played, whole
from tests.model import POP, observed, push

RULES = (("keeps",), ("counts", 1), ("counts", 4), ("marks", ()), ("marks", (0, 1)))
HANDS = [0, 1, 0, 0, 1, 1, 0, 1, 1, 1, 0, 0, 1, 0, 1, 1]


def handed():
    return [1, 2, 3], [[POP, push(7)], [POP, POP, push(8)]]


def spoil(told):
    """Change all that can be changed in what was given back, inner lists too."""
    if isinstance(told, (list, tuple)):
        for part in told:
            spoil(part)
    if isinstance(told, list):
        told.reverse()
        told.append("spoilt")
        told[0] = "spoilt"


class StaysTest(unittest.TestCase):
    def test_what_is_handed_in_stays_as_it_was(self):
        for rule in RULES:
            values, programs = handed()
            weaving = list(HANDS)
            machine = Machine(values, programs, rule)
            for hand in HANDS * 3:
                machine.turn(hand)
            played(values, programs, rule, weaving)
            whole(values, programs, rule, weaving)
            stale(values, programs, rule)
            safe_counts(values, programs)
            least_marks(values, programs)
            self.assertEqual((values, programs), handed())
            self.assertEqual(weaving, HANDS)

    def test_what_is_refused_stays_as_it_was(self):
        for values, programs, rule, weaving in (
            ([1, 100], [[POP], [push(1)]], ("keeps",), [0]),
            ([1] * 7, [[POP], [push(1)]], ("keeps",), [0]),
            ([1], [[POP], [push(1), ()]], ("keeps",), [0]),
            ([1], [[POP], [push(1)] * 5], ("keeps",), [0]),
            ([1], [[POP]] * 4, ("keeps",), [0]),
            ([1], [[POP], [push(1)]], ("counts", 16), [0]),
            ([1], [[POP], [push(1)]], ("keeps",), [0, 1, 2]),
        ):
            was = copy.deepcopy((values, programs, rule, weaving))
            for called in (played, whole):
                for _ in range(2):
                    with self.assertRaises(PileError):
                        called(values, programs, rule, weaving)
            for called in (Machine, stale):
                if weaving == [0]:
                    with self.assertRaises(PileError):
                        called(values, programs, rule)
            self.assertEqual((values, programs, rule, weaving), was)

    def test_a_machine_keeps_copies(self):
        for rule in RULES:
            values, programs = handed()
            machine = Machine(values, programs, rule)
            other = Machine(*handed(), rule)
            for at, hand in enumerate(HANDS):
                if at == 0:
                    values.clear()
                if at == 3:
                    programs[0][1] = push(99)
                    programs[1].clear()
                if at == 5:
                    programs.reverse()
                    programs.pop()
                self.assertEqual(machine.turn(hand), other.turn(hand))
                self.assertEqual(observed(machine, 2), observed(other, 2))

    def test_the_same_list_for_each_hand(self):
        deeds = [POP, push(7)]
        programs = [deeds, deeds, deeds]
        machine = Machine([1, 2], programs, ("keeps",))
        while not machine.is_done():
            for hand in range(3):
                machine.turn(hand)
        self.assertEqual(len(machine.order()), 6)
        self.assertEqual(programs, [[POP, push(7)]] * 3)


class GivenBackTest(unittest.TestCase):
    def test_what_a_machine_tells_may_be_changed(self):
        for rule in RULES:
            machine = Machine(*handed(), rule)
            other = Machine(*handed(), rule)
            for hand in HANDS + [0, 1] * 10:
                spoil(list(observed(machine, 2).values()))
                self.assertEqual(observed(machine, 2), observed(other, 2))
                self.assertEqual(machine.turn(hand), other.turn(hand))
                self.assertEqual(observed(machine, 2), observed(other, 2))

    def test_what_a_machine_told_stays_when_it_goes_on(self):
        machine = Machine(*handed(), ("counts", 4))
        for hand in HANDS:
            told = observed(machine, 2)
            was = copy.deepcopy(told)
            machine.turn(hand)
            self.assertEqual(told, was)

    def test_asking_changes_nothing(self):
        machine = Machine(*handed(), ("marks", (0, 1)))
        other = Machine(*handed(), ("marks", (0, 1)))
        for hand in HANDS:
            for _ in range(3):
                was = observed(machine, 2)
                self.assertEqual(observed(machine, 2), was)
            self.assertEqual(machine.turn(hand), other.turn(hand))

    def test_machines_share_nothing(self):
        values, programs = handed()
        one = Machine(values, programs, ("keeps",))
        other = Machine(values, programs, ("keeps",))
        was = observed(other, 2)
        for hand in HANDS:
            one.turn(hand)
        self.assertEqual(observed(other, 2), was)

    def test_the_functions_tell_the_same_again(self):
        for rule in RULES:
            for called, more in (
                (played, (rule, HANDS)),
                (whole, (rule, HANDS)),
                (stale, (rule,)),
                (safe_counts, ()),
                (least_marks, ()),
            ):
                values, programs = handed()
                first = copy.deepcopy(called(values, programs, *more))
                for _ in range(2):
                    told = called(values, programs, *more)
                    self.assertEqual(told, first)
                    spoil(told)
                self.assertEqual((values, programs), handed())

    def test_changing_what_was_handed_in_does_not_change_what_was_told(self):
        values, programs = handed()
        weaving = list(HANDS)
        told = [played(values, programs, ("keeps",), weaving), whole(values, programs, ("keeps",), weaving)]
        was = copy.deepcopy(told)
        spoil([values, programs, weaving])
        self.assertEqual(told, was)


if __name__ == "__main__":
    unittest.main()
