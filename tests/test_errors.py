import unittest

from doorpicks import errors
from doorpicks.errors import NoBounds, NoChange, NoNumber, NoPick, NoText, PickError

REFUSALS = [NoBounds, NoPick, NoNumber, NoChange, NoText]


class TestErrors(unittest.TestCase):
    def test_pick_error_stands_under_value_error(self):
        self.assertTrue(issubclass(PickError, ValueError))
        self.assertEqual(PickError.__bases__, (ValueError,))

    def test_each_refusal_stands_under_pick_error(self):
        for refusal in REFUSALS:
            with self.subTest(refusal=refusal.__name__):
                self.assertTrue(issubclass(refusal, PickError))
                self.assertIsNot(refusal, PickError)

    def test_no_refusal_stands_under_another(self):
        for one in REFUSALS:
            for other in REFUSALS:
                if one is not other:
                    with self.subTest(one=one.__name__, other=other.__name__):
                        self.assertFalse(issubclass(one, other))

    def test_each_can_be_raised_and_caught(self):
        for refusal in REFUSALS:
            for above in (refusal, PickError, ValueError):
                with self.subTest(refusal=refusal.__name__, above=above.__name__):
                    with self.assertRaises(above):
                        raise refusal("no")

    def test_names_are_those_of_the_document(self):
        for refusal in REFUSALS + [PickError]:
            self.assertIs(getattr(errors, refusal.__name__), refusal)
            self.assertEqual(refusal.__module__, "doorpicks.errors")


if __name__ == "__main__":
    unittest.main()
