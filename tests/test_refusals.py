"""Points 2 to 5 and 11, and the interface: what each function refuses, with which fields, and in which order."""

import itertools
import unittest

from stalestack.errors import BadDeed, BadPile, BadRule, NoHand, PileError
from stalestack.machine import Machine
from stalestack.staleness import least_marks, safe_counts, stale
from stalestack.weaving import played, whole
from tests.model import POP, observed, push

KEEPS = ("keeps",)

BAD_VALUES = (-1, 100, -99, 10**30)
BAD_DEEDS = ((), ("",), ("peek",), ("push",), ("push", -1), ("push", 100), ("push", 1, 2), ("pop", 0), ("peek", 5))


def bad_rules(many):
    rules = [("keep",), ("",), ("Keeps",), ("counts",), ("marks",), ("pop",), ("keeps", 0), ("keeps", 1), ("push", 5)]
    rules += [("counts", m) for m in (0, 16, 17, -1, -15, 100, 10**30, -(10**30))]
    rules += [("Counts", 3), ("count", 3), ("mark", 1), ("", 3)]
    rules += [("marks", hands) for hands in ((-1,), (many,), (many + 5,), (0, 0), (0, many), (-1, 0), (10**30,))]
    if many > 1:
        rules += [("marks", hands) for hands in ((1, 0), (0, 1, 0), (0, 1, 1), (1, 1), (0, 0, 1))]
    if many > 2:
        rules += [("marks", hands) for hands in ((0, 2, 1), (2, 0), (2, 1, 0), (1, 2, 0), (0, 1, 2, 2), (0, 1, 2, 3))]
    return rules


def good_rules(many):
    rules = [KEEPS] + [("counts", m) for m in range(1, 16)]
    for size in range(many + 1):
        rules += [("marks", hands) for hands in itertools.combinations(range(many), size)]
    return rules


WITH_RULE = {
    "Machine": Machine,
    "played": lambda values, programs, rule: played(values, programs, rule, []),
    "played, bad weaving": lambda values, programs, rule: played(values, programs, rule, [99]),
    "whole": lambda values, programs, rule: whole(values, programs, rule, []),
    "whole, bad weaving": lambda values, programs, rule: whole(values, programs, rule, [99]),
    "stale": stale,
}

WITHOUT_RULE = {
    "safe_counts": safe_counts,
    "least_marks": least_marks,
}


class RefusalCase(unittest.TestCase):
    def refused(self, called, *handed):
        with self.assertRaises(PileError) as caught:
            called(*handed)
        return caught.exception

    def all_refused(self, values, programs, rule=KEEPS):
        """What each of the functions refuses with."""
        for name, called in WITH_RULE.items():
            yield name, self.refused(called, values, programs, rule)
        for name, called in WITHOUT_RULE.items():
            yield name, self.refused(called, values, programs)

    def assert_bad_pile(self, at, *handed):
        for name, error in self.all_refused(*handed):
            self.assertIs(type(error), BadPile, (name, handed))
            self.assertEqual(error.at, at, (name, handed))

    def assert_bad_deed(self, hand, number, *handed):
        for name, error in self.all_refused(*handed):
            self.assertIs(type(error), BadDeed, (name, handed))
            self.assertEqual((error.hand, error.number), (hand, number), (name, handed))

    def assert_bad_rule(self, values, programs, rule):
        for name, called in WITH_RULE.items():
            error = self.refused(called, values, programs, rule)
            self.assertIs(type(error), BadRule, (name, values, programs, rule))


class BadPileTest(RefusalCase):
    def test_a_bad_value_at_each_place(self):
        for bad in BAD_VALUES:
            for size in range(1, 7):
                for at in range(size):
                    values = [5] * size
                    values[at] = bad
                    self.assert_bad_pile(at, values, [[POP]])

    def test_the_first_one_of_two_bad_values(self):
        for at, behind in itertools.combinations(range(6), 2):
            values = [0, 99, 0, 99, 0, 99]
            values[at] = 100
            values[behind] = -1
            self.assert_bad_pile(at, values, [[POP]])

    def test_more_than_six_values_ahead_of_a_bad_one(self):
        for size in (7, 8, 20):
            self.assert_bad_pile(6, [5] * size, [[POP]])
            for at in (0, 3, 5, 6, size - 1):
                values = [5] * size
                values[at] = 100
                self.assert_bad_pile(6, values, [[POP]])

    def test_ahead_of_bad_deeds_and_rules(self):
        for programs in ([], [[]] * 4, [[POP] * 5], [[("peek",)]], [[POP]]):
            for rule in (("counts", 0), ("marks", (9,)), KEEPS):
                self.assert_bad_pile(1, [5, 100, -1], programs, rule)
                self.assert_bad_pile(6, [5] * 7, programs, rule)

    def test_six_values_and_none_are_a_pile(self):
        for values in ([], [0], [99], [0, 99, 0, 99, 0, 99]):
            self.assertEqual(Machine(values, [[POP]], KEEPS).pile_values(), values[::-1])


class BadDeedTest(RefusalCase):
    def test_too_few_and_too_many_hands(self):
        self.assert_bad_deed(0, 0, [1], [])
        for many in (4, 5, 9):
            for deeds in ([], [POP], [POP] * 4, [POP] * 5, [("peek",)]):
                self.assert_bad_deed(many, 0, [1], [deeds] * many)

    def test_too_many_deeds(self):
        for many in (1, 2, 3):
            for hand in range(many):
                for size in (5, 6, 20):
                    for deed in (POP, push(3)):
                        programs = [[POP]] * many
                        programs[hand] = [deed] * size
                        self.assert_bad_deed(hand, 4, [1], programs)

    def test_too_many_deeds_ahead_of_bad_ones_of_that_hand(self):
        for bad in BAD_DEEDS:
            for at in range(5):
                deeds = [POP] * 5
                deeds[at] = bad
                self.assert_bad_deed(1, 4, [1], [[POP], deeds])

    def test_a_bad_deed_at_each_place(self):
        for bad in BAD_DEEDS:
            for many in (1, 2, 3):
                for hand in range(many):
                    for number in range(4):
                        programs = [[push(1), POP, POP, push(2)] for _ in range(many)]
                        programs[hand][number] = bad
                        self.assert_bad_deed(hand, number, [1], programs)

    def test_the_first_one_of_two_bad_deeds(self):
        places = list(itertools.product(range(3), range(4)))
        for one, other in itertools.combinations(places, 2):
            programs = [[push(1), POP, POP, push(2)] for _ in range(3)]
            programs[one[0]][one[1]] = ("push", 100)
            programs[other[0]][other[1]] = ()
            self.assert_bad_deed(*one, [], programs)

    def test_a_hand_is_told_ahead_of_the_hands_behind_it(self):
        bad, long = [POP, ("peek",)], [POP] * 5
        self.assert_bad_deed(0, 1, [1], [bad, long])
        self.assert_bad_deed(0, 4, [1], [long, bad])
        self.assert_bad_deed(1, 1, [1], [[], bad, long])
        self.assert_bad_deed(1, 4, [1], [[], long, bad])
        self.assert_bad_deed(0, 4, [1], [long, long])

    def test_ahead_of_bad_rules(self):
        for rule in bad_rules(1):
            self.assert_bad_deed(0, 0, [1], [], rule)
            self.assert_bad_deed(4, 0, [1], [[], [], [], []], rule)
            self.assert_bad_deed(0, 0, [1], [[("peek",)]], rule)
            self.assert_bad_deed(0, 4, [1], [[POP] * 5], rule)

    def test_none_to_four_deeds_of_one_to_three_hands_are_programs(self):
        for many in (1, 2, 3):
            for sizes in itertools.product(range(5), repeat=many):
                programs = [[push(0), POP, push(99), POP][:size] for size in sizes]
                self.assertIs(Machine([], programs, KEEPS).is_done(), sum(sizes) == 0)


class BadRuleTest(RefusalCase):
    def test_bad_rules(self):
        for many in (1, 2, 3):
            for rule in bad_rules(many):
                self.assert_bad_rule([1], [[POP]] * many, rule)
                self.assert_bad_rule([], [[]] * many, rule)

    def test_a_rule_names_hands_that_are_there_alone(self):
        self.assert_bad_rule([1], [[POP]], ("marks", (1,)))
        self.assert_bad_rule([1], [[POP], [POP]], ("marks", (0, 2)))
        self.assert_bad_rule([1], [[POP], [POP]], ("marks", (2,)))
        self.assert_bad_rule([1], [[POP], [POP], [POP]], ("marks", (3,)))

    def test_programs_of_more_than_six_deeds_are_refused_likewise(self):
        programs = [[push(1), POP, push(2), POP]] * 3
        for rule in bad_rules(3):
            self.assert_bad_rule([1, 2, 3], programs, rule)

    def test_good_rules(self):
        for many in (1, 2, 3):
            for rule in good_rules(many):
                self.assertIs(Machine([1], [[]] * many, rule).is_done(), True)
                self.assertIsNone(stale([1], [[]] * many, rule))


class NoHandTest(RefusalCase):
    def test_a_machine_asked_for_a_hand_that_is_not_there(self):
        for many in (1, 2, 3):
            machine = Machine([1, 2], [[POP]] * many, ("marks", (0,)))
            machine.turn(0)
            was = observed(machine, many)
            for hand in (-1, -2, -many, many, many + 1, 10**30, -(10**30)):
                for called in (machine.turn, machine.answers, machine.marked):
                    self.assertIs(type(self.refused(called, hand)), NoHand)
                self.assertEqual(observed(machine, many), was)

    def test_a_machine_that_is_done_refuses_likewise(self):
        machine = Machine([], [[]], KEEPS)
        for called in (machine.turn, machine.answers, machine.marked):
            self.assertIs(type(self.refused(called, 1)), NoHand)

    def test_a_weaving_with_a_hand_that_is_not_there(self):
        for called in (played, whole):
            for many in (1, 2, 3):
                for hand in (-1, -many, many, many + 1, 10**30):
                    for weaving in ([hand], [0, hand], [hand, 0], [0] * 199 + [hand], [0, hand, 0, hand]):
                        for programs in ([[POP]] * many, [[]] * many):
                            error = self.refused(called, [1], programs, KEEPS, weaving)
                            self.assertIs(type(error), NoHand, (called, many, weaving))

    def test_behind_all_other_refusals(self):
        for called in (played, whole):
            self.assertIs(type(self.refused(called, [100], [], ("counts", 0), [9])), BadPile)
            self.assertIs(type(self.refused(called, [1], [], ("counts", 0), [9])), BadDeed)
            self.assertIs(type(self.refused(called, [1], [[POP]], ("counts", 0), [9])), BadRule)
            self.assertIs(type(self.refused(called, [1], [[POP]], ("counts", 1), [9])), NoHand)


if __name__ == "__main__":
    unittest.main()
