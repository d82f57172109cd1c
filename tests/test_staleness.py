"""Point 12: the shortest weaving to a stale exchange, the safe counts and the least marks."""

import itertools
import unittest

from stalestack.machine import Machine
from stalestack.staleness import least_marks, safe_counts, stale
from tests.model import POP, all_stale_weavings, first_stale_weaving, programs_of, push

KEEPS = ("keeps",)
ALL_COUNTS = list(range(1, 16))


def counts_by_model(values, programs):
    return [m for m in ALL_COUNTS if first_stale_weaving(values, programs, ("counts", m)) is None]


def marks_by_model(values, programs):
    hands = range(len(programs))
    for many in range(len(programs) + 1):
        for chosen in itertools.combinations(hands, many):
            if first_stale_weaving(values, programs, ("marks", chosen)) is None:
                return chosen
    raise AssertionError("by the marks of all hands none is stale")


def some_rules(many):
    rules = [KEEPS, ("counts", 1), ("counts", 2), ("counts", 3)]
    for size in range(many + 1):
        rules += [("marks", hands) for hands in itertools.combinations(range(many), size)]
    return rules


class ToldByHandTest(unittest.TestCase):
    """Hand 0 sees cell 2 upon cell 1; hand 1 pops both of them and pushes cell 2 upon none."""

    PROGRAMS = [[POP], [POP, POP, push(9)]]

    def test_stale(self):
        weaving = [0, 0] + [1] * 12 + [0]
        for rule in (("counts", 1), ("counts", 3), ("marks", ())):
            self.assertEqual(stale([5, 6], self.PROGRAMS, rule), weaving)
        for rule in (KEEPS, ("counts", 2), ("counts", 4), ("counts", 15), ("marks", (0,)), ("marks", (0, 1))):
            self.assertIsNone(stale([5, 6], self.PROGRAMS, rule))

    def test_the_least_of_the_shortest(self):
        # Hand 1 reads ahead of the first exchange of hand 0 and follows ahead of its linking, each as late as can be.
        weaving = [0] * 2 + [1] + [0] * 8 + [1] + [0] * 2 + [1]
        self.assertEqual(stale([5, 6], self.PROGRAMS[::-1], ("counts", 1)), weaving)

    def test_what_the_others_mark_makes_the_weaving_longer(self):
        # Both pops of hand 1 mark and look, which is four steps more.
        self.assertEqual(stale([5, 6], self.PROGRAMS, ("marks", (1,))), [0, 0] + [1] * 16 + [0])

    def test_safe_counts(self):
        # Three exchanges are behind the reading, so the count is the same by 1 and by 3.
        self.assertEqual(safe_counts([5, 6], self.PROGRAMS), [2] + list(range(4, 16)))

    def test_least_marks(self):
        self.assertEqual(least_marks([5, 6], self.PROGRAMS), (0,))
        self.assertEqual(least_marks([5, 6], self.PROGRAMS[::-1]), (1,))

    def test_too_few_values(self):
        for values in ([], [5]):
            self.assertIsNone(stale(values, self.PROGRAMS, ("counts", 1)))
            self.assertEqual(safe_counts(values, self.PROGRAMS), ALL_COUNTS)
            self.assertEqual(least_marks(values, self.PROGRAMS), ())


class NeverStaleTest(unittest.TestCase):
    def assert_never(self, values, programs):
        for rule in some_rules(len(programs)):
            self.assertIsNone(stale(values, programs, rule), (values, programs, rule))
        self.assertEqual(safe_counts(values, programs), ALL_COUNTS)
        self.assertEqual(least_marks(values, programs), ())

    def test_no_deeds(self):
        for many in (1, 2, 3):
            self.assert_never([1, 2, 3], [[]] * many)
            self.assert_never([], [[]] * many)

    def test_a_hand_alone(self):
        for size in range(5):
            for programs in programs_of((size,)):
                for values in ([], [1, 2], [1, 2, 3, 4, 5, 6]):
                    self.assert_never(values, programs)
        self.assert_never([1, 2], [[], [POP, POP, push(3), POP], []])

    def test_pops_alone_and_pushes_alone(self):
        self.assert_never([1, 2, 3], [[POP, POP], [POP, POP], [POP, POP]])
        self.assert_never([1, 2, 3], [[push(1), push(2)], [push(3), push(4)], [push(5), push(6)]])

    def test_a_hand_that_pops_and_hands_that_push(self):
        self.assert_never([1, 2], [[POP, POP], [push(3), push(4)], [push(5), push(6)]])


class AllWeavingsTest(unittest.TestCase):
    """The same as going through all weavings, each on its own, tells."""

    def assert_same(self, values, programs, rule):
        found = all_stale_weavings(values, programs, rule)
        first = min(found, key=lambda weaving: (len(weaving), weaving), default=None)
        expected = None if first is None else list(first)
        self.assertEqual(stale(values, programs, rule), expected, (values, programs, rule))
        return expected

    def test_one_and_two_deeds(self):
        for programs in programs_of((1, 2)):
            if programs[0] == [POP]:
                self.assertIsNone(self.assert_same([1, 2], programs, ("counts", 1)))
        self.assertIsNone(self.assert_same([1, 2], [[POP], [POP, push(9)]], ("marks", (0,))))

    def test_one_and_three_deeds(self):
        for rule in (("counts", 1), ("counts", 3), ("marks", ())):
            self.assertIsNotNone(self.assert_same([1, 2], [[POP, POP, push(9)], [POP]], rule))
        self.assertIsNotNone(self.assert_same([1, 2], [[POP], [POP, POP, push(9)]], ("counts", 1)))
        self.assertIsNone(self.assert_same([1, 2], [[POP], [POP, POP, push(9)]], ("counts", 2)))
        self.assertIsNone(self.assert_same([1, 2], [[POP], [POP, push(8), push(9)]], ("counts", 1)))


class SecondMachineTest(unittest.TestCase):
    """The same as a second machine tells, on which weavings to the same state count as one."""

    def assert_same(self, values, programs, rule):
        expected = first_stale_weaving(values, programs, rule)
        self.assertEqual(stale(values, programs, rule), expected, (values, programs, rule))
        if expected is not None:
            machine = Machine(values, programs, rule)
            for hand in expected:
                self.assertIs(machine.is_stale(), False)
                self.assertNotEqual(machine.turn(hand), ("rests",))
            self.assertIs(machine.is_stale(), True)
        return expected

    def test_stale_of_two_hands(self):
        unsafe = 0
        for sizes in ((1, 2), (2, 2), (1, 3), (3, 1)):
            for programs in programs_of(sizes):
                for rule in some_rules(2):
                    unsafe += self.assert_same([1, 2], programs, rule) is not None
        self.assertGreater(unsafe, 5)

    def test_stale_by_the_number_of_values(self):
        for programs in ([[POP, push(8)], [POP, POP, push(9)]], [[POP, POP], [POP, push(9)]]):
            for many in range(7):
                self.assert_same([1, 2, 3, 4, 5, 6][:many], programs, ("counts", 1))
                self.assert_same([1, 2, 3, 4, 5, 6][:many], programs, ("marks", (1,)))

    def test_stale_of_three_hands(self):
        for programs in (
            [[POP], [POP], [POP, push(9)]],
            [[POP], [POP, push(9)], [POP]],
            [[POP, push(9)], [POP], [POP]],
            [[POP], [POP, POP], [push(9)]],
        ):
            for rule in some_rules(3):
                self.assert_same([1, 2], programs, rule)

    def test_stale_of_six_deeds(self):
        for programs in (
            [[POP, push(7)], [POP, push(8)], [POP, push(9)]],
            [[POP, POP], [push(8), POP], [push(9), POP]],
            [[POP, POP, push(7)], [POP, POP, push(8)]],
            [[POP, POP], [POP, POP, push(7), push(8)]],
            [[POP], [POP, push(8), POP, push(7)], [POP]],
        ):
            for rule in (("counts", 1), ("counts", 2), ("marks", (0,))):
                self.assert_same([1, 2], programs, rule)

    def test_safe_counts(self):
        told = set()
        for sizes in ((1, 3), (2, 2)):
            for programs in programs_of(sizes):
                safe = safe_counts([1, 2], programs)
                told.add(tuple(safe))
                self.assertEqual(safe, counts_by_model([1, 2], programs), programs)
        self.assertGreater(len(told), 1)

    def test_safe_counts_of_three_hands(self):
        for programs in ([[POP], [POP], [POP, push(9)]], [[POP], [POP, push(8), POP, push(7)], []]):
            self.assertEqual(safe_counts([1, 2], programs), counts_by_model([1, 2], programs))

    def test_least_marks(self):
        told = set()
        for sizes in ((1, 3), (3, 1), (2, 2)):
            for programs in programs_of(sizes):
                least = least_marks([1, 2], programs)
                told.add(least)
                self.assertEqual(least, marks_by_model([1, 2], programs), programs)
        self.assertTrue({(), (0,), (1,)} <= told)

    def test_least_marks_of_three_hands(self):
        told = set()
        for programs in (
            [[POP], [POP], [POP, push(9)]],
            [[POP], [POP, push(9)], [POP]],
            [[POP, push(9)], [POP], [POP]],
            [[push(9)], [POP], [POP, POP]],
            [[], [POP], [POP, POP, push(3)]],
        ):
            least = least_marks([1, 2], programs)
            told.add(least)
            self.assertEqual(least, marks_by_model([1, 2], programs), programs)
        self.assertGreater(len(told), 2)


class SixDeedsTest(unittest.TestCase):
    """Programs of up to six deeds in all are answered."""

    SIZES = ((2, 4), (4, 2), (3, 3), (2, 2, 2), (1, 1, 4), (1, 4, 1), (3, 2, 1), (4, 0, 2))

    def test_each_is_answered(self):
        for sizes in self.SIZES:
            for kind in (0, 4, 40, 51):
                deeds = [push(k) if kind >> k & 1 else POP for k in range(6)]
                programs = [deeds[sum(sizes[:hand]):sum(sizes[:hand + 1])] for hand in range(len(sizes))]
                with self.subTest(programs=programs):
                    safe = safe_counts([1, 2, 3], programs)
                    self.assertEqual(safe[-9:], list(range(7, 16)))
                    for m in range(1, 7):
                        found = stale([1, 2, 3], programs, ("counts", m))
                        self.assertEqual(found is None, m in safe)
                    least = least_marks([1, 2, 3], programs)
                    self.assertIsNone(stale([1, 2, 3], programs, ("marks", least)))
                    for hands in itertools.combinations(range(len(sizes)), len(least)):
                        if hands < least:
                            self.assertIsNotNone(stale([1, 2, 3], programs, ("marks", hands)))

    def test_a_greater_count_may_let_some_be(self):
        programs = [[POP], [POP, push(8), POP, push(7)], [POP]]
        self.assertEqual(safe_counts([1, 2], programs), [2, 4] + list(range(6, 16)))
        self.assertEqual(least_marks([1, 2], programs), (0, 2))

    def test_all_hands_must_mark(self):
        programs = [[POP, push(7)], [POP, push(8)], [POP, push(9)]]
        self.assertEqual(least_marks([1, 2], programs), (0, 1, 2))
        self.assertEqual(safe_counts([1, 2], programs), list(range(5, 16)))


class KindsTest(unittest.TestCase):
    def test_kinds(self):
        programs = [[POP], [POP, POP, push(9)]]
        found = stale([1, 2], programs, ("counts", 1))
        self.assertIs(type(found), list)
        self.assertEqual({type(hand) for hand in found}, {int})
        self.assertIs(type(safe_counts([1, 2], programs)), list)
        self.assertIs(type(least_marks([1, 2], programs)), tuple)
        self.assertIs(type(least_marks([1, 2], [[POP]])), tuple)
        self.assertIs(type(least_marks([1, 2], [[POP, push(1)]] * 2)), tuple)

    def test_what_is_stale_does_not_hang_on_the_values(self):
        for rule in some_rules(2):
            told = [
                stale(values, [[POP], [POP, POP, push(value)]], rule)
                for values, value in (([1, 2], 3), ([0, 0], 0), ([99, 98], 99), ([7, 7], 7))
            ]
            self.assertEqual(told, told[:1] * 4)


if __name__ == "__main__":
    unittest.main()
