"""Points 2 to 9 for stalestack/machine.py: what steps do, told by hand and by a second machine."""

import itertools
import random
import unittest

from stalestack.machine import Machine
from tests.model import POP, Model, observed, programs_of, push, rules_for

KEEPS = ("keeps",)


def counts(m):
    return ("counts", m)


def marks(*hands):
    return ("marks", hands)


class MachineCase(unittest.TestCase):
    def play(self, machine, hands, told):
        """The steps of the hands, a text of their numbers, tell this."""
        self.assertEqual([machine.turn(int(hand)) for hand in hands], told)


class AtFirstTest(MachineCase):
    def test_the_pile_at_first(self):
        for size in range(7):
            values = [7, 0, 99, 7, 5, 1][:size]
            for rule in (KEEPS, counts(1), counts(15), marks(), marks(0)):
                with self.subTest(size=size, rule=rule):
                    machine = Machine(values, [[POP]], rule)
                    self.assertEqual(machine.top_now(), (size, 0))
                    self.assertEqual(machine.nexts(), list(range(size)))
                    self.assertEqual(machine.pile(), list(range(size, 0, -1)))
                    self.assertEqual(machine.pile_values(), values[::-1])
                    self.assertEqual(machine.free(), [])
                    self.assertEqual(machine.order(), [])
                    self.assertIs(machine.is_stale(), False)
                    self.assertIs(machine.is_done(), False)

    def test_hands_at_first(self):
        for many in (1, 2, 3):
            machine = Machine([1], [[POP]] * many, KEEPS)
            for hand in range(many):
                self.assertEqual(machine.answers(hand), [])
                self.assertEqual(machine.marked(hand), 0)

    def test_hands_without_deeds_are_done_and_rest(self):
        for many in (1, 2, 3):
            for rule in rules_for(many):
                machine = Machine([1, 2], [[] for _ in range(many)], rule)
                self.assertIs(machine.is_done(), True)
                was = observed(machine, many)
                for hand in range(many):
                    self.assertEqual(machine.turn(hand), ("rests",))
                self.assertEqual(observed(machine, many), was)

    def test_kinds_of_what_is_told(self):
        machine = Machine([1, 2], [[POP]], marks(0))
        for _ in range(8):
            self.assertIs(type(machine.turn(0)), tuple)
            self.assertIs(type(machine.top_now()), tuple)
            self.assertIs(type(machine.marked(0)), int)
            for told in (machine.answers(0), machine.order(), machine.nexts(), machine.free()):
                self.assertIs(type(told), list)
            for told in (machine.pile(), machine.pile_values()):
                self.assertIs(type(told), list)
            for told in (machine.is_stale(), machine.is_done()):
                self.assertIs(type(told), bool)
        self.assertEqual([type(deed) for deed in machine.order()], [tuple])


class OneHandTest(MachineCase):
    def test_a_push(self):
        machine = Machine([4, 5], [[push(6)]], KEEPS)
        self.assertEqual(machine.turn(0), ("takes", 3))
        self.assertEqual((machine.nexts(), machine.top_now()), ([0, 1, 0], (2, 0)))
        self.assertEqual(machine.turn(0), ("reads", 2))
        self.assertEqual((machine.nexts(), machine.top_now()), ([0, 1, 0], (2, 0)))
        self.assertEqual(machine.turn(0), ("links", 2))
        self.assertEqual((machine.nexts(), machine.top_now()), ([0, 1, 2], (2, 0)))
        self.assertEqual((machine.order(), machine.answers(0)), ([], []))
        self.assertEqual(machine.turn(0), ("ends", "done"))
        self.assertEqual((machine.nexts(), machine.top_now()), ([0, 1, 2], (3, 0)))
        self.assertEqual((machine.order(), machine.answers(0)), ([(0, 0)], ["done"]))
        self.assertEqual((machine.pile(), machine.pile_values()), ([3, 2, 1], [6, 5, 4]))
        self.assertIs(machine.is_done(), True)
        self.assertEqual(machine.turn(0), ("rests",))

    def test_a_push_on_no_values(self):
        machine = Machine([], [[push(6), push(7)]], KEEPS)
        told = [("takes", 1), ("reads", 0), ("links", 0), ("ends", "done")]
        told += [("takes", 2), ("reads", 1), ("links", 1), ("ends", "done"), ("rests",)]
        self.play(machine, "000000000", told)
        self.assertEqual((machine.pile(), machine.pile_values()), ([2, 1], [7, 6]))

    def test_a_pop(self):
        machine = Machine([4, 5], [[POP]], KEEPS)
        self.assertEqual(machine.turn(0), ("reads", 2))
        self.assertEqual(machine.turn(0), ("follows", 1))
        self.assertEqual((machine.order(), machine.top_now()), ([], (2, 0)))
        self.assertEqual(machine.turn(0), ("exchanges", 1))
        self.assertEqual((machine.order(), machine.top_now()), ([(0, 0)], (1, 0)))
        self.assertEqual((machine.answers(0), machine.free()), ([], []))
        self.assertIs(machine.is_done(), False)
        self.assertEqual(machine.turn(0), ("ends", 5))
        self.assertEqual((machine.answers(0), machine.free()), ([5], [2]))
        self.assertEqual(machine.nexts(), [0, 1])
        self.assertIs(machine.is_done(), True)
        self.assertEqual(machine.turn(0), ("rests",))

    def test_a_pop_of_the_last_value(self):
        machine = Machine([0], [[POP]], KEEPS)
        self.play(machine, "0000", [("reads", 1), ("follows", 0), ("exchanges", 0), ("ends", 0)])
        self.assertEqual((machine.pile(), machine.free(), machine.answers(0)), ([], [1], [0]))

    def test_a_pop_that_meets_none_at_first(self):
        for rule in (KEEPS, counts(3), marks(), marks(0)):
            machine = Machine([], [[POP, POP]], rule)
            self.assertEqual(machine.turn(0), ("ends", None))
            self.assertEqual((machine.order(), machine.answers(0)), ([(0, 0)], [None]))
            self.assertEqual(machine.top_now(), (0, 0))
            self.play(machine, "00", [("ends", None), ("rests",)])
            self.assertEqual((machine.order(), machine.answers(0)), ([(0, 0), (0, 1)], [None, None]))

    def test_a_pop_that_meets_none_behind_others(self):
        machine = Machine([3], [[POP], [POP, POP]], counts(5))
        self.play(machine, "01", [("reads", 1), ("reads", 1)])
        self.play(machine, "100", [("follows", 0), ("follows", 0), ("exchanges", 0)])
        self.play(machine, "11", [("misses",), ("ends", None)])
        self.assertEqual(machine.order(), [(0, 0), (1, 0)])
        self.play(machine, "10", [("ends", None), ("ends", 3)])
        self.assertEqual(machine.order(), [(0, 0), (1, 0), (1, 1)])
        self.assertEqual([machine.answers(0), machine.answers(1)], [[3], [None, None]])

    def test_a_freed_cell_keeps_its_next_till_it_is_linked(self):
        machine = Machine([1, 2, 3], [[POP, POP, push(4)]], counts(9))
        for _ in range(8):
            machine.turn(0)
        self.assertEqual((machine.free(), machine.nexts()), ([3, 2], [0, 1, 2]))
        self.play(machine, "0", [("takes", 3)])
        self.assertEqual((machine.free(), machine.nexts()), ([2], [0, 1, 2]))
        self.play(machine, "0", [("reads", 1)])
        self.assertEqual(machine.nexts(), [0, 1, 2])
        self.play(machine, "0", [("links", 1)])
        self.assertEqual(machine.nexts(), [0, 1, 1])
        self.play(machine, "0", [("ends", "done")])
        self.assertEqual(machine.pile_values(), [4, 1])

    def test_a_value_is_put_into_the_cell_when_that_is_taken(self):
        # The stale exchange makes the freed cell 1 the top; there is told what lies in it by then.
        machine = Machine([1, 2], [[POP], [POP, POP, push(3), push(4)]], counts(1))
        for hand in "00" + "1111" + "1111" + "1111" + "0":
            machine.turn(int(hand))
        self.assertEqual((machine.is_stale(), machine.pile_values()), (True, [1]))
        self.play(machine, "1", [("takes", 1)])
        self.assertEqual(machine.pile_values(), [4])


class MissTest(MachineCase):
    def test_a_push_that_misses_keeps_its_cell_and_links_anew(self):
        machine = Machine([1], [[push(8)], [push(9)]], KEEPS)
        self.play(machine, "000", [("takes", 2), ("reads", 1), ("links", 1)])
        self.play(machine, "1111", [("takes", 3), ("reads", 1), ("links", 1), ("ends", "done")])
        was = (machine.top_now(), machine.nexts(), machine.order(), machine.free(), machine.pile())
        self.play(machine, "0", [("misses",)])
        now = (machine.top_now(), machine.nexts(), machine.order(), machine.free(), machine.pile())
        self.assertEqual(now, was)
        self.assertEqual(machine.answers(0), [])
        self.play(machine, "00", [("reads", 3), ("links", 3)])
        self.assertEqual(machine.nexts(), [0, 3, 1])
        self.play(machine, "0", [("ends", "done")])
        self.assertEqual((machine.pile_values(), machine.order()), ([8, 9, 1], [(1, 0), (0, 0)]))

    def test_a_pop_that_misses_reads_and_follows_anew(self):
        machine = Machine([1, 2, 3], [[POP], [POP]], KEEPS)
        self.play(machine, "0011", [("reads", 3), ("follows", 2), ("reads", 3), ("follows", 2)])
        self.play(machine, "1", [("exchanges", 2)])
        self.play(machine, "0", [("misses",)])
        self.assertEqual((machine.order(), machine.answers(0)), ([(1, 0)], []))
        self.play(machine, "0000", [("reads", 2), ("follows", 1), ("exchanges", 1), ("ends", 2)])
        self.play(machine, "1", [("ends", 3)])
        self.assertEqual((machine.order(), machine.free()), ([(1, 0), (0, 0)], [2, 3]))

    def test_a_hand_may_miss_again_and_again(self):
        machine = Machine([], [[push(1)], [push(2), push(3), push(4)]], counts(2))
        self.play(machine, "0", [("takes", 1)])
        for top in (0, 2, 3):
            self.play(machine, "00", [("reads", top), ("links", top)])
            cell = len(machine.nexts()) + 1
            self.play(machine, "1111", [("takes", cell), ("reads", top), ("links", top), ("ends", "done")])
            self.play(machine, "0", [("misses",)])
        self.play(machine, "000", [("reads", 4), ("links", 4), ("ends", "done")])
        self.assertEqual(machine.pile_values(), [1, 4, 3, 2])

    def test_a_push_goes_by_if_the_old_top_came_again(self):
        machine = Machine([1], [[push(8)], [POP, push(9)]], counts(1))
        self.play(machine, "000", [("takes", 2), ("reads", 1), ("links", 1)])
        told = [("reads", 1), ("follows", 0), ("exchanges", 0), ("ends", 1)]
        told += [("takes", 1), ("reads", 0), ("links", 0), ("ends", "done")]
        self.play(machine, "11111111", told)
        self.play(machine, "0", [("ends", "done")])
        self.assertEqual((machine.is_stale(), machine.pile_values()), (False, [8, 9]))

    def test_a_hand_misses_if_the_count_alone_is_another_one(self):
        told = [("reads", 1), ("follows", 0), ("exchanges", 0), ("ends", 1)]
        told += [("takes", 1), ("reads", 0), ("links", 0), ("ends", "done")]
        for deed, ahead, behind in (
            (push(8), [("takes", 2), ("reads", 1), ("links", 1)], ("ends", "done")),
            (POP, [("reads", 1), ("follows", 0)], ("exchanges", 0)),
        ):
            for m in range(1, 16):
                machine = Machine([1], [[deed], [POP, push(9)]], counts(m))
                self.play(machine, "0" * len(ahead), ahead)
                self.play(machine, "11111111", told)
                # Two exchanges were behind the reading.
                self.play(machine, "0", [behind if m in (1, 2) else ("misses",)])


class CountsTest(MachineCase):
    def test_each_exchange_makes_the_count_one_more_and_0_behind_the_last(self):
        deeds = [push(1), POP, push(2), push(3)]
        for m in range(1, 16):
            machine = Machine([5], [deeds, deeds, deeds], counts(m))
            exchanges = 0
            for hand in (0, 1, 2):
                while len(machine.answers(hand)) < 4:
                    told = machine.turn(hand)
                    if told[0] == "exchanges" or told == ("ends", "done"):
                        exchanges += 1
                    self.assertEqual(machine.top_now()[1], exchanges % m, (m, told))
            self.assertEqual(exchanges, 12)

    def test_a_miss_and_a_pop_of_none_leave_the_count(self):
        machine = Machine([], [[POP, push(1)], [push(2)]], counts(4))
        self.play(machine, "0", [("ends", None)])
        self.assertEqual(machine.top_now(), (0, 0))
        self.play(machine, "000", [("takes", 1), ("reads", 0), ("links", 0)])
        self.play(machine, "111", [("takes", 2), ("reads", 0), ("links", 0)])
        self.play(machine, "10", [("ends", "done"), ("misses",)])
        self.assertEqual(machine.top_now(), (2, 1))

    def test_by_the_other_rules_the_count_stays(self):
        for rule in (KEEPS, marks(), marks(0)):
            machine = Machine([5], [[push(1), POP, POP, POP]], rule)
            while not machine.is_done():
                machine.turn(0)
                self.assertEqual(machine.top_now()[1], 0)

    def test_takes_the_free_cell_that_was_let_go_first(self):
        machine = Machine([1, 2, 3], [[POP, push(7)], [POP, push(8)], [POP, push(9)]], counts(9))
        # Hand 0 exchanges first and lets its cell go last.
        for hand in "000" + "1111" + "2222" + "0":
            machine.turn(int(hand))
        self.assertEqual(machine.free(), [2, 1, 3])
        self.play(machine, "201", [("takes", 2), ("takes", 1), ("takes", 3)])
        self.assertEqual(machine.free(), [])

    def test_takes_a_new_cell_if_none_is_free(self):
        machine = Machine([1], [[push(7), POP, push(6)], [push(8)], [push(9)]], counts(3))
        self.play(machine, "012", [("takes", 2), ("takes", 3), ("takes", 4)])
        self.assertEqual(machine.nexts(), [0, 0, 0, 0])


class KeepsTest(MachineCase):
    def test_takes_a_new_cell_always(self):
        machine = Machine([1, 2], [[POP, push(7), POP, push(8)]], KEEPS)
        for _ in range(4):
            machine.turn(0)
        self.assertEqual(machine.free(), [2])
        self.play(machine, "0", [("takes", 3)])
        self.assertEqual((machine.free(), machine.nexts()), ([2], [0, 1, 0]))
        for _ in range(7):
            machine.turn(0)
        self.assertEqual(machine.free(), [2, 3])
        self.play(machine, "0", [("takes", 4)])
        self.assertEqual((machine.free(), machine.nexts()), ([2, 3], [0, 1, 1, 0]))


class MarksTest(MachineCase):
    def test_a_pop_of_a_hand_that_marks(self):
        machine = Machine([1, 2], [[POP]], marks(0))
        self.play(machine, "0", [("reads", 2)])
        self.assertEqual(machine.marked(0), 0)
        self.play(machine, "0", [("marks", 2)])
        self.assertEqual(machine.marked(0), 2)
        self.play(machine, "000", [("looks", True), ("follows", 1), ("exchanges", 1)])
        self.assertEqual(machine.marked(0), 2)
        self.play(machine, "0", [("ends", 2)])
        self.assertEqual(machine.marked(0), 0)
        self.play(machine, "0", [("rests",)])

    def test_only_the_hands_of_the_rule_mark(self):
        for many in (1, 2, 3):
            for size in range(many + 1):
                for hands in itertools.combinations(range(many), size):
                    machine = Machine([1, 2, 3], [[POP]] * many, marks(*hands))
                    for hand in range(many):
                        machine.turn(hand)
                        told = ("marks", 3) if hand in hands else ("follows", 2)
                        self.assertEqual(machine.turn(hand), told)
                        self.assertEqual(machine.marked(hand), 3 if hand in hands else 0)

    def test_by_the_other_rules_no_hand_marks(self):
        for rule in (KEEPS, counts(2)):
            machine = Machine([1], [[POP]], rule)
            self.play(machine, "00", [("reads", 1), ("follows", 0)])
            self.assertEqual(machine.marked(0), 0)

    def test_a_push_marks_and_looks_at_nothing(self):
        machine = Machine([1], [[push(2)]], marks(0))
        self.play(machine, "0000", [("takes", 2), ("reads", 1), ("links", 1), ("ends", "done")])

    def test_a_look_that_fails(self):
        machine = Machine([1, 2], [[POP], [push(3)]], marks(0))
        self.play(machine, "00", [("reads", 2), ("marks", 2)])
        self.play(machine, "1111", [("takes", 3), ("reads", 2), ("links", 2), ("ends", "done")])
        self.play(machine, "0", [("looks", False)])
        self.assertEqual(machine.marked(0), 2)
        self.play(machine, "0", [("reads", 3)])
        self.assertEqual(machine.marked(0), 2)
        self.play(machine, "0", [("marks", 3)])
        self.assertEqual(machine.marked(0), 3)
        self.play(machine, "0000", [("looks", True), ("follows", 2), ("exchanges", 2), ("ends", 3)])
        self.assertEqual(machine.marked(0), 0)

    def test_a_look_that_fails_and_then_meets_none(self):
        machine = Machine([1], [[POP], [POP]], marks(0))
        self.play(machine, "00", [("reads", 1), ("marks", 1)])
        self.play(machine, "111", [("reads", 1), ("follows", 0), ("exchanges", 0)])
        self.play(machine, "0", [("looks", False)])
        self.assertEqual(machine.marked(0), 1)
        self.play(machine, "0", [("ends", None)])
        self.assertEqual((machine.marked(0), machine.answers(0)), (0, [None]))

    def test_what_is_marked_already_is_looked_at_at_once(self):
        machine = Machine([1, 2], [[POP], [push(3), POP]], marks(0))
        self.play(machine, "00", [("reads", 2), ("marks", 2)])
        for _ in range(4):
            machine.turn(1)
        self.play(machine, "0", [("looks", False)])
        self.play(machine, "111", [("reads", 3), ("follows", 2), ("exchanges", 2)])
        self.play(machine, "0000", [("reads", 2), ("looks", True), ("follows", 1), ("exchanges", 1)])

    def test_a_miss_keeps_the_mark_and_looks_once_for_each_reading(self):
        machine = Machine([1, 2], [[POP], [push(3), POP]], marks(0))
        self.play(machine, "0000", [("reads", 2), ("marks", 2), ("looks", True), ("follows", 1)])
        for _ in range(4):
            machine.turn(1)
        self.play(machine, "0", [("misses",)])
        self.assertEqual(machine.marked(0), 2)
        self.play(machine, "111", [("reads", 3), ("follows", 2), ("exchanges", 2)])
        self.play(machine, "000", [("reads", 2), ("looks", True), ("follows", 1)])
        self.play(machine, "00", [("exchanges", 1), ("ends", 2)])

    def test_a_free_cell_that_is_marked_is_not_taken(self):
        machine = Machine([1, 2, 3], [[POP], [POP, POP, push(4), push(5)]], marks(0))
        self.play(machine, "00", [("reads", 3), ("marks", 3)])
        for _ in range(8):
            machine.turn(1)
        self.assertEqual(machine.free(), [3, 2])
        self.play(machine, "1", [("takes", 2)])
        self.assertEqual(machine.free(), [3])
        for _ in range(3):
            machine.turn(1)
        self.play(machine, "1", [("takes", 4)])
        self.assertEqual((machine.free(), machine.nexts()), ([3], [0, 1, 2, 0]))

    def test_a_cell_is_taken_again_when_its_mark_has_gone(self):
        machine = Machine([1, 2], [[POP], [POP, push(4), push(5)]], marks(0))
        self.play(machine, "00", [("reads", 2), ("marks", 2)])
        for _ in range(4):
            machine.turn(1)
        self.play(machine, "1", [("takes", 3)])
        self.play(machine, "000", [("looks", False), ("reads", 1), ("marks", 1)])
        for _ in range(3):
            machine.turn(1)
        self.play(machine, "1", [("takes", 2)])

    def test_the_mark_lasts_till_the_deed_ends(self):
        machine = Machine([1, 2], [[POP], [push(3)]], marks(0))
        self.play(machine, "00000", [("reads", 2), ("marks", 2), ("looks", True), ("follows", 1), ("exchanges", 1)])
        self.assertEqual((machine.marked(0), machine.free()), (2, []))
        self.play(machine, "0", [("ends", 2)])
        self.assertEqual((machine.marked(0), machine.free()), (0, [2]))
        self.play(machine, "1", [("takes", 2)])

    def test_marks_of_none_let_every_free_cell_be_taken(self):
        machine = Machine([1, 2], [[POP], [POP, push(4)]], marks())
        self.play(machine, "00", [("reads", 2), ("follows", 1)])
        for _ in range(4):
            machine.turn(1)
        self.play(machine, "1", [("takes", 2)])


class StaleTest(MachineCase):
    # Hand 0 sees cell 2 upon cell 1; behind it hand 1 pops both and pushes cell 2 upon none.
    AHEAD = "00" + "1111" + "1111" + "1111"
    PROGRAMS = [[POP], [POP, POP, push(3)]]

    def test_a_stale_exchange(self):
        for rule in (counts(1), counts(3), marks(), marks(1)):
            machine = Machine([1, 2], self.PROGRAMS, rule)
            self.play(machine, "00", [("reads", 2), ("follows", 1)])
            while len(machine.answers(1)) < 3:
                machine.turn(1)
            self.assertEqual(machine.order(), [(1, 0), (1, 1), (1, 2)])
            self.assertIs(machine.is_stale(), False)
            self.assertEqual((machine.pile(), machine.free()), ([2], [1]))
            self.play(machine, "0", [("exchanges", 1)])
            self.assertIs(machine.is_stale(), True)
            # The free cell 1 is the top now.
            self.assertEqual((machine.pile(), machine.free()), ([1], [1]))
            self.play(machine, "0", [("ends", 3)])
            self.assertIs(machine.is_stale(), True)
            self.assertEqual(machine.free(), [1, 2])
            self.assertEqual((machine.pile_values(), machine.is_done()), ([1], True))

    def test_no_exchange_is_stale_by_rules_that_forbid_it(self):
        for rule in (counts(2), counts(4), counts(5), KEEPS, marks(0), marks(0, 1)):
            machine = Machine([1, 2], self.PROGRAMS, rule)
            while machine.turn(0)[0] != "follows":
                pass
            while len(machine.answers(1)) < 3:
                machine.turn(1)
            while not machine.is_done():
                machine.turn(0)
            self.assertIs(machine.is_stale(), False)
            self.assertEqual((machine.answers(0), machine.pile_values()), ([3], []))

    def test_what_lies_deeper_may_have_changed(self):
        # Cell 3 comes again upon cell 2 as before, though cell 1 beneath that is no more what it was.
        machine = Machine([1, 2], [[POP], [POP, push(3)]], counts(1))
        for hand in "00" + "1111" + "1111":
            machine.turn(int(hand))
        self.play(machine, "0", [("exchanges", 1)])
        self.assertEqual((machine.is_stale(), machine.pile_values()), (False, [1]))

    def test_the_next_counts_by_the_exchange_and_not_by_the_following(self):
        # Cell 2 is linked anew ahead of the exchange that the pop makes, and behind its following.
        machine = Machine([1, 2], [[POP], [POP, push(3)], [push(4)]], counts(1))
        self.play(machine, "00", [("reads", 2), ("follows", 1)])
        for _ in range(4):
            machine.turn(1)
        for _ in range(4):
            machine.turn(2)
        self.assertEqual(machine.pile(), [2, 1])
        self.play(machine, "111", [("takes", 3), ("reads", 2), ("links", 2)])
        self.play(machine, "0", [("exchanges", 1)])
        self.assertIs(machine.is_stale(), False)

    def test_a_pile_that_goes_round_is_told_once(self):
        deeds = [[POP, push(30), push(31)], [POP, POP, push(20), push(21)]]
        machine = Machine([1, 2], deeds, counts(1))
        for hand in self.AHEAD + "00":
            machine.turn(int(hand))
        self.assertEqual((machine.pile(), machine.free()), ([1], [1, 2]))
        # Cell 1 is free and the top, so a push links it to itself.
        self.play(machine, "0000", [("takes", 1), ("reads", 1), ("links", 1), ("ends", "done")])
        self.assertEqual((machine.nexts(), machine.top_now()), ([1, 0], (1, 0)))
        self.assertEqual((machine.pile(), machine.pile_values()), ([1], [30]))
        self.play(machine, "0000", [("takes", 2), ("reads", 1), ("links", 1), ("ends", "done")])
        self.assertEqual((machine.pile(), machine.pile_values()), ([2, 1], [31, 30]))

    def test_a_cell_may_be_let_go_twice(self):
        machine = Machine([1, 2], [[POP, POP], [POP, POP, push(3)]], counts(1))
        for hand in self.AHEAD + "00":
            machine.turn(int(hand))
        self.play(machine, "0000", [("reads", 1), ("follows", 0), ("exchanges", 0), ("ends", 1)])
        self.assertEqual((machine.free(), machine.is_stale()), ([1, 2, 1], True))


class SecondMachineTest(unittest.TestCase):
    """The same as a second machine tells, all of it behind each step."""

    def assert_same(self, values, programs, rule, hands):
        machine = Machine(values, programs, rule)
        model = Model(values, programs, rule)
        many = len(programs)
        for at, hand in enumerate(hands):
            what = (values, programs, rule, hands[:at + 1])
            self.assertEqual(machine.turn(hand), model.turn(hand), what)
            self.assertEqual(observed(machine, many), model.observed(), what)

    def test_every_weaving_of_two_hands_with_a_deed_each(self):
        for programs in programs_of((1, 1)):
            for rule in (KEEPS, counts(1), counts(2), marks(), marks(1), marks(0, 1)):
                for hands in itertools.product((0, 1), repeat=8):
                    self.assert_same([5], programs, rule, hands)

    def test_many_weavings_of_one_to_three_hands(self):
        chance = random.Random(5)
        for many in (1, 2, 3):
            rules = rules_for(many)
            for _ in range(1200):
                programs = []
                for _ in range(many):
                    kinds = [chance.randrange(3) > 0 for _ in range(chance.randrange(5))]
                    programs.append([push(chance.randrange(100)) if k else POP for k in kinds])
                values = [chance.randrange(100) for _ in range(chance.randrange(7))]
                hands = []
                while len(hands) < 80:
                    # A hand does some steps on end, so that others find much changed.
                    hands += [chance.randrange(many)] * chance.choice((1, 1, 2, 4, 9))
                self.assert_same(values, programs, chance.choice(rules), hands)

    def test_many_weavings_that_go_on_behind_a_stale_exchange(self):
        chance = random.Random(6)
        for _ in range(800):
            rest = [POP if chance.randrange(2) else push(chance.randrange(100)) for _ in range(8)]
            programs = [[POP] + rest[:3], [POP, POP, push(5)] + rest[3:4], rest[4:]]
            values = [chance.randrange(100) for _ in range(chance.randrange(2, 7))]
            hands = [0] * 2 + [1] * 12 + [0]
            while len(hands) < 80:
                hands += [chance.randrange(3)] * chance.choice((1, 1, 2, 4, 9))
            rule = chance.choice((counts(1), counts(3), marks(), marks(2)))
            self.assert_same(values, programs, rule, hands)
            machine = Machine(values, programs, rule)
            for hand in hands[:15]:
                self.assertIs(machine.is_stale(), False)
                machine.turn(hand)
            self.assertIs(machine.is_stale(), True)


if __name__ == "__main__":
    unittest.main()
