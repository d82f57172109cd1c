"""Point 11: what weavings play, and what is told when all deeds are done."""

import itertools
import random
import unittest

from stalestack.weaving import played, whole
from tests.model import POP, Model, programs_of, push, rules_for

KEEPS = ("keeps",)


def model_played(values, programs, rule, weaving):
    model = Model(values, programs, rule)
    return [model.turn(hand) for hand in weaving]


def model_whole(values, programs, rule, weaving):
    model = Model(values, programs, rule)
    for hand in weaving:
        model.turn(hand)
    while not model.is_done():
        for hand in range(len(programs)):
            model.turn(hand)
    told = model.observed()
    return (told["answers"], told["order"], told["pile_values"], told["is_stale"])


class PlayedTest(unittest.TestCase):
    def test_nothing(self):
        for rule in rules_for(2):
            self.assertEqual(played([1, 2], [[POP], [push(3)]], rule, []), [])

    def test_a_step(self):
        self.assertEqual(played([1, 2], [[POP], [push(3)]], KEEPS, [0]), [("reads", 2)])
        self.assertEqual(played([1, 2], [[POP], [push(3)]], KEEPS, [1]), [("takes", 3)])

    def test_a_weaving(self):
        told = [("reads", 1), ("takes", 2), ("marks", 1), ("reads", 1), ("links", 1), ("ends", "done")]
        told += [("looks", False), ("reads", 2), ("rests",), ("marks", 2), ("looks", True), ("follows", 1)]
        told += [("exchanges", 1), ("ends", 3), ("rests",), ("rests",)]
        weaving = [0, 1, 0, 1, 1, 1, 0, 0, 1, 0, 0, 0, 0, 0, 0, 1]
        self.assertEqual(played([1], [[POP], [push(3)]], ("marks", (0,)), weaving), told)

    def test_two_hundred_steps_and_more(self):
        for many in (200, 201, 500):
            told = played([1], [[POP]], KEEPS, [0] * many)
            self.assertEqual(told[:4], [("reads", 1), ("follows", 0), ("exchanges", 0), ("ends", 1)])
            self.assertEqual(told[4:], [("rests",)] * (many - 4))

    def test_kinds(self):
        told = played([1], [[POP]], KEEPS, [0, 0])
        self.assertIs(type(told), list)
        self.assertEqual([type(step) for step in told], [tuple, tuple])


class WholeTest(unittest.TestCase):
    def test_no_deeds(self):
        for rule in rules_for(3):
            self.assertEqual(whole([1, 2], [[], [], []], rule, []), ([[], [], []], [], [2, 1], False))

    def test_no_values(self):
        self.assertEqual(whole([], [[POP]], KEEPS, []), ([[None]], [(0, 0)], [], False))

    def test_by_turns_from_hand_0_on(self):
        # Without a weaving hand 0 exchanges first, and the others miss.
        told = whole([1], [[push(2)], [push(3)], [push(4)]], KEEPS, [])
        self.assertEqual(told, ([["done"], ["done"], ["done"]], [(0, 0), (1, 0), (2, 0)], [4, 3, 2, 1], False))

    def test_behind_a_weaving_hand_0_is_first_again(self):
        programs = [[push(2)], [push(3)]]
        told = whole([1], programs, KEEPS, [1])
        self.assertEqual(told, ([["done"], ["done"]], [(1, 0), (0, 0)], [2, 3, 1], False))
        told = whole([1], programs, KEEPS, [0, 1])
        self.assertEqual(told, ([["done"], ["done"]], [(0, 0), (1, 0)], [3, 2, 1], False))

    def test_a_pop_and_a_push(self):
        # The pop takes three steps to its exchange, the push four.
        told = whole([1], [[push(2)], [POP]], KEEPS, [])
        self.assertEqual(told, ([["done"], [1]], [(1, 0), (0, 0)], [2], False))

    def test_a_weaving_that_does_all(self):
        told = whole([1], [[push(2)], [POP]], KEEPS, [0] * 4 + [1] * 4)
        self.assertEqual(told, ([["done"], [2]], [(0, 0), (1, 0)], [1], False))
        told = whole([1], [[push(2)], [POP]], KEEPS, [0] * 100 + [1] * 100)
        self.assertEqual(told, ([["done"], [2]], [(0, 0), (1, 0)], [1], False))

    def test_a_stale_exchange_in_the_weaving(self):
        weaving = [0, 0] + [1] * 12 + [0]
        told = whole([1, 2], [[POP], [POP, POP, push(3)]], ("counts", 1), weaving)
        order = [(1, 0), (1, 1), (1, 2), (0, 0)]
        self.assertEqual(told, ([[3], [2, 1, "done"]], order, [1], True))

    def test_a_stale_exchange_behind_the_weaving(self):
        weaving = [0, 0] + [1] * 12
        told = whole([1, 2], [[POP], [POP, POP, push(3)]], ("counts", 1), weaving)
        self.assertIs(told[3], True)
        told = whole([1, 2], [[POP], [POP, POP, push(3)]], ("counts", 2), weaving)
        self.assertEqual(told, ([[3], [2, 1, "done"]], [(1, 0), (1, 1), (1, 2), (0, 0)], [], False))

    def test_a_pile_that_goes_round(self):
        # The free cell 1 is the top behind the stale exchange; the next push links it to itself.
        weaving = [0, 0] + [1] * 12 + [0, 0] + [0] * 4
        programs = [[POP, push(30)], [POP, POP, push(20)]]
        told = whole([1, 2], programs, ("counts", 1), weaving)
        self.assertEqual(told[2:], ([30], True))

    def test_kinds(self):
        told = whole([1], [[POP], []], KEEPS, [0])
        self.assertIs(type(told), tuple)
        self.assertEqual([type(part) for part in told], [list, list, list, bool])
        self.assertEqual([type(row) for row in told[0]], [list, list])
        self.assertEqual([type(deed) for deed in told[1]], [tuple])


class SecondMachineTest(unittest.TestCase):
    def assert_same(self, *handed):
        self.assertEqual(played(*handed), model_played(*handed), handed)
        self.assertEqual(whole(*handed), model_whole(*handed), handed)

    def test_short_weavings_of_small_programs(self):
        for sizes in ((1,), (1, 1), (2, 1), (1, 0, 1)):
            for programs in programs_of(sizes):
                for rule in rules_for(len(sizes)):
                    for many in (0, 3):
                        for weaving in itertools.product(range(len(sizes)), repeat=many):
                            self.assert_same([5, 6], programs, rule, list(weaving))

    def test_comes_to_an_end_by_every_rule(self):
        chance = random.Random(11)
        for many in (1, 2, 3):
            for rule in rules_for(many) + [("counts", m) for m in range(4, 15)]:
                for _ in range(12):
                    deeds = [POP if chance.randrange(2) else push(chance.randrange(100)) for _ in range(4 * many)]
                    programs = [deeds[4 * hand:4 * hand + 4] for hand in range(many)]
                    values = [chance.randrange(100) for _ in range(chance.randrange(7))]
                    weaving = []
                    while len(weaving) < 200:
                        weaving += [chance.randrange(many)] * chance.choice((1, 2, 5, 9))
                    self.assert_same(values, programs, rule, weaving[:chance.choice((0, 1, 7, 30, 200))])

    def test_goes_on_behind_a_stale_exchange(self):
        chance = random.Random(12)
        for _ in range(400):
            rest = [POP if chance.randrange(2) else push(chance.randrange(100)) for _ in range(8)]
            programs = [[POP] + rest[:3], [POP, POP, push(5)] + rest[3:4], rest[4:]]
            rule = chance.choice((("counts", 1), ("counts", 3), ("marks", ()), ("marks", (2,))))
            weaving = [0] * 2 + [1] * 12 + [0]
            weaving += [chance.randrange(3) for _ in range(chance.randrange(60))]
            self.assert_same([7, 8, 9], programs, rule, weaving)
            self.assertIs(whole([7, 8, 9], programs, rule, weaving)[3], True)


if __name__ == "__main__":
    unittest.main()
