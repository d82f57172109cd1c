"""The interface of stalestack/errors.py."""

import unittest

from stalestack.errors import BadDeed, BadPile, BadRule, NoHand, PileError


class ErrorsTest(unittest.TestCase):
    def test_pile_error_stands_directly_under_value_error(self):
        self.assertEqual(PileError.__bases__, (ValueError,))

    def test_each_refusal_stands_directly_under_pile_error(self):
        for refusal in (BadPile, BadDeed, BadRule, NoHand):
            with self.subTest(refusal=refusal.__name__):
                self.assertEqual(refusal.__bases__, (PileError,))

    def test_none_stands_under_another_one(self):
        refusals = (BadPile, BadDeed, BadRule, NoHand)
        for one in refusals:
            for other in refusals:
                with self.subTest(one=one.__name__, other=other.__name__):
                    self.assertEqual(issubclass(one, other), one is other)

    def test_bad_pile_has_its_field(self):
        for at in (0, 3, 6):
            with self.subTest(at=at):
                self.assertEqual(BadPile(at).at, at)
                self.assertEqual(vars(BadPile(at)), {"at": at})

    def test_bad_deed_has_its_fields(self):
        for hand, number in ((0, 0), (0, 7), (2, 1)):
            with self.subTest(hand=hand, number=number):
                error = BadDeed(hand, number)
                self.assertEqual((error.hand, error.number), (hand, number))
                self.assertEqual(vars(error), {"hand": hand, "number": number})

    def test_each_can_be_raised_and_caught_as_any_refusal(self):
        for error in (BadPile(1), BadDeed(0, 1), BadRule(), NoHand(), PileError()):
            for caught in (PileError, ValueError):
                with self.subTest(error=repr(error), caught=caught.__name__):
                    with self.assertRaises(caught):
                        raise error


if __name__ == "__main__":
    unittest.main()
