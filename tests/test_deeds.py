"""Points 1 to 3 for stalestack/deeds.py: what serial tells and what it refuses."""

import copy
import itertools
import unittest

from stalestack.deeds import serial
from stalestack.errors import BadDeed, BadPile, PileError

POP = ("pop",)

BAD_VALUES = (-1, 100, -99, 101, 10**30, -(10**30))

BAD_DEEDS = (
    (),
    ("",),
    ("peek",),
    ("Pop",),
    ("pop ",),
    ("done",),
    ("", 5),
    ("Push", 5),
    ("pushes", 5),
    ("peek", 5),
    ("peek", 5, 6),
    ("push",),
    ("push", -1),
    ("push", 100),
    ("push", 10**30),
    ("push", -(10**30)),
    ("push", 1, 2),
    ("push", 1, 2, 3),
    ("push", 100, 1),
    ("push", 1, 100),
    ("pop", 0),
    ("pop", 5),
    ("pop", 100),
    ("pop", 1, 2),
)


def push(value):
    return ("push", value)


def told_by_pairs(values, deeds):
    """The same as serial, with a pile of pairs (value, what lies beneath)."""
    pile = None
    for value in values:
        pile = (value, pile)
    answers = []
    for deed in deeds:
        if deed[0] == "push":
            pile = (deed[1], pile)
            answers.append("done")
        elif pile is None:
            answers.append(None)
        else:
            answers.append(pile[0])
            pile = pile[1]
    left = []
    while pile is not None:
        left.insert(0, pile[0])
        pile = pile[1]
    return answers, left


def woven_deeds(many, period):
    """Many deeds, all pushes but each period-th one."""
    return [POP if k % period == period - 1 else push(k * 7 % 100) for k in range(many)]


def mostly_pops(many, period):
    """Many deeds, all pops but each period-th one."""
    return [push(k * 7 % 100) if k % period == period - 1 else POP for k in range(many)]


class OrdinaryTest(unittest.TestCase):
    def assert_told(self, values, deeds, answers, left):
        self.assertEqual(serial(values, deeds), (answers, left))

    def test_gives_a_tuple_of_two_lists(self):
        for values, deeds in (([], []), ([1, 2], []), ([], [POP]), ([1], [push(2), POP])):
            with self.subTest(values=values, deeds=deeds):
                told = serial(values, deeds)
                self.assertIs(type(told), tuple)
                self.assertEqual([type(part) for part in told], [list, list])

    def test_push_answers_done_and_lies_on_top(self):
        self.assert_told([1, 2], [push(3)], ["done"], [1, 2, 3])

    def test_pop_answers_the_value_on_top(self):
        self.assert_told([1, 2, 3], [POP], [3], [1, 2])

    def test_last_pushed_is_first_popped(self):
        self.assert_told([], [push(1), push(2), POP, POP], ["done", "done", 2, 1], [])

    def test_pops_go_through_the_pushed_to_the_values_at_first(self):
        deeds = [push(7), POP, POP, push(9), POP, POP]
        self.assert_told([4, 5], deeds, ["done", 7, 5, "done", 9, 4], [])

    def test_same_values_again_and_again(self):
        self.assert_told([5, 5], [push(5), POP, POP], ["done", 5, 5], [5])

    def test_more_pushes_than_pops(self):
        deeds = [push(3), push(4), POP, push(5)]
        self.assert_told([1, 2], deeds, ["done", "done", 4, "done"], [1, 2, 3, 5])

    def test_more_pops_than_pushes(self):
        self.assert_told([1, 2, 3], [POP, push(9), POP, POP], [3, "done", 9, 2], [1])

    def test_more_than_six_values_may_lie_there_at_the_end(self):
        values = [1, 2, 3, 4, 5, 6]
        self.assert_told(values, [push(7)], ["done"], [1, 2, 3, 4, 5, 6, 7])
        deeds = [push(k) for k in range(40)]
        self.assert_told(values, deeds, ["done"] * 40, values + list(range(40)))

    def test_every_short_run_of_deeds(self):
        for many in range(7):
            for kinds in itertools.product((True, False), repeat=many):
                deeds = [push(10 + k) if pushes else POP for k, pushes in enumerate(kinds)]
                for size in range(4):
                    values = list(range(50, 50 + size))
                    self.assertEqual(serial(values, deeds), told_by_pairs(values, deeds), (values, deeds))

    def test_every_number_of_values_with_up_to_forty_deeds(self):
        for size in range(7):
            values = [90 + k for k in range(size)]
            for many in range(41):
                for period in (2, 3, 5):
                    for deeds in (woven_deeds(many, period), mostly_pops(many, period)):
                        self.assertEqual(serial(values, deeds), told_by_pairs(values, deeds), (values, deeds))

    def test_there_is_no_limit_of_deeds(self):
        for deeds in (woven_deeds(3000, 4), mostly_pops(3000, 4)):
            self.assertEqual(serial([1, 2], deeds), told_by_pairs([1, 2], deeds))


class EdgesTest(unittest.TestCase):
    def test_no_values_and_no_deeds(self):
        self.assertEqual(serial([], []), ([], []))

    def test_no_deeds_leave_the_values(self):
        for size in range(7):
            values = list(range(size))
            self.assertEqual(serial(values, []), ([], values))

    def test_pop_of_no_values_answers_none(self):
        self.assertEqual(serial([], [POP]), ([None], []))
        self.assertEqual(serial([1], [POP, POP, POP]), ([1, None, None], []))

    def test_push_behind_a_pop_of_no_values_goes_on(self):
        self.assertEqual(serial([], [POP, push(4), POP, POP]), ([None, "done", 4, None], []))
        self.assertEqual(serial([], [POP, POP, push(4)]), ([None, None, "done"], [4]))

    def test_zero_is_a_value_and_not_none(self):
        self.assertEqual(serial([0], [POP, POP]), ([0, None], []))
        self.assertEqual(serial([], [push(0), POP, POP]), (["done", 0, None], []))
        self.assertEqual(serial([0], [push(0)]), (["done"], [0, 0]))

    def test_ninety_nine_is_a_value(self):
        self.assertEqual(serial([99], [push(99), POP]), (["done", 99], [99]))

    def test_each_value_may_lie_there_and_be_pushed(self):
        for value in range(100):
            self.assertEqual(serial([value], [push(value)]), (["done"], [value, value]))

    def test_six_values(self):
        values = [0, 99, 1, 98, 2, 97]
        self.assertEqual(serial(values, [POP] * 7), ([97, 2, 98, 1, 99, 0, None], []))


class RefusalsTest(unittest.TestCase):
    def assert_bad_pile(self, values, deeds, at):
        with self.assertRaises(PileError) as caught:
            serial(values, deeds)
        self.assertIs(type(caught.exception), BadPile, (values, deeds))
        self.assertEqual(caught.exception.at, at, (values, deeds))

    def assert_bad_deed(self, values, deeds, number):
        with self.assertRaises(PileError) as caught:
            serial(values, deeds)
        self.assertIs(type(caught.exception), BadDeed, (values, deeds))
        self.assertEqual((caught.exception.hand, caught.exception.number), (0, number), (values, deeds))

    def test_a_bad_value_at_each_place(self):
        for bad in BAD_VALUES:
            for size in range(1, 7):
                for at in range(size):
                    values = [5] * size
                    values[at] = bad
                    self.assert_bad_pile(values, [], at)

    def test_the_first_one_of_two_bad_values(self):
        for bad in BAD_VALUES:
            for other in BAD_VALUES:
                for at, behind in itertools.combinations(range(6), 2):
                    values = [5] * 6
                    values[at] = bad
                    values[behind] = other
                    self.assert_bad_pile(values, [POP], at)

    def test_more_than_six_values(self):
        for size in (7, 8, 12, 100):
            self.assert_bad_pile([5] * size, [], 6)

    def test_more_than_six_values_are_told_ahead_of_bad_ones(self):
        for bad in BAD_VALUES:
            for size in (7, 8, 12):
                for at in range(size):
                    values = [5] * size
                    values[at] = bad
                    self.assert_bad_pile(values, [], 6)
                self.assert_bad_pile([bad] * size, [], 6)

    def test_a_bad_deed_at_each_place(self):
        for bad in BAD_DEEDS:
            for many in (1, 2, 4, 5, 9):
                for number in range(many):
                    for good in (POP, push(5)):
                        deeds = [good] * many
                        deeds[number] = bad
                        self.assert_bad_deed([1], deeds, number)

    def test_the_first_one_of_two_bad_deeds(self):
        for bad, other in itertools.product(BAD_DEEDS, repeat=2):
            for number, behind in itertools.combinations(range(5), 2):
                deeds = [push(5), POP, POP, push(6), POP]
                deeds[number] = bad
                deeds[behind] = other
                self.assert_bad_deed([], deeds, number)

    def test_a_bad_deed_far_behind(self):
        self.assert_bad_deed([1], woven_deeds(200, 3) + [()], 200)

    def test_a_bad_pile_is_told_ahead_of_a_bad_deed(self):
        for bad in BAD_DEEDS:
            self.assert_bad_pile([1, 2, 100, -1], [bad], 2)
            self.assert_bad_pile([1] * 7, [bad, bad], 6)
            self.assert_bad_pile([-1] * 7, [POP, bad], 6)

    def test_a_text_is_none_of_the_two_even_if_only_equal_in_part(self):
        for text in ("p", "po", "popp", "pus", "pushh", "PUSH", "POP", " push", "push\n"):
            self.assert_bad_deed([], [(text,)], 0)
            self.assert_bad_deed([], [(text, 5)], 0)


class AskedAgainTest(unittest.TestCase):
    """Point 1: nothing handed in is changed, and what is given back is the asker's own."""

    CASES = (
        ([], []),
        ([1, 2, 3], []),
        ([], [POP, push(4)]),
        ([1, 2], [POP, push(3), push(4), POP, POP, POP, POP, push(8)]),
        ([0, 1, 2, 3, 4, 5], [push(9), push(8)]),
    )

    REFUSED = (
        ([1, 100], [POP]),
        ([1] * 7, [POP]),
        ([1, 2], [POP, push(3), ("pop", 1)]),
        ([1, -1], [POP, ()]),
    )

    def test_lists_handed_in_stay_as_they_were(self):
        for values, deeds in copy.deepcopy(self.CASES):
            was = copy.deepcopy((values, deeds))
            serial(values, deeds)
            self.assertEqual((values, deeds), was)

    def test_lists_handed_in_stay_as_they_were_where_it_refuses(self):
        for values, deeds in copy.deepcopy(self.REFUSED):
            was = copy.deepcopy((values, deeds))
            with self.assertRaises(PileError):
                serial(values, deeds)
            self.assertEqual((values, deeds), was)

    def test_refuses_the_same_when_asked_again(self):
        for values, deeds in self.REFUSED:
            told = []
            for _ in range(2):
                with self.assertRaises(PileError) as caught:
                    serial(values, deeds)
                told.append((type(caught.exception), vars(caught.exception)))
            self.assertEqual(told[0], told[1])

    def test_answers_the_same_after_the_asker_changed_what_was_given_back(self):
        for values, deeds in copy.deepcopy(self.CASES):
            answers, left = serial(values, deeds)
            first = (list(answers), list(left))
            answers.append("spoilt")
            answers.reverse()
            left.append(77)
            left.reverse()
            self.assertEqual(serial(values, deeds), first)
            answers.clear()
            left.clear()
            self.assertEqual(serial(values, deeds), first)

    def test_what_is_given_back_is_not_what_was_handed_in(self):
        for values, deeds in copy.deepcopy(self.CASES):
            was = copy.deepcopy((values, deeds))
            answers, left = serial(values, deeds)
            answers.append("spoilt")
            self.assertNotIn("spoilt", left)
            left.append(77)
            self.assertEqual((values, deeds), was)

    def test_changing_what_was_handed_in_does_not_change_what_was_given_back(self):
        values, deeds = [1, 2], [push(3), POP]
        told = serial(values, deeds)
        values.append(9)
        deeds.clear()
        self.assertEqual(told, (["done", 3], [1, 2]))


if __name__ == "__main__":
    unittest.main()
