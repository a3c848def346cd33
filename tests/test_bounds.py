"""[3]: which picks there are, and the fields."""

import unittest

from doorpicks.errors import NoBounds
from doorpicks.picks import Picks
from helper import HUGE, assert_refused, no_whole_numbers


class TestBounds(unittest.TestCase):
    def test_every_size_from_none_to_all_is_taken(self):
        for things in (0, 1, 2, 3, 7, 50, 199, 200):
            for size in range(things + 1):
                picks = Picks(things, size)
                self.assertEqual((picks.things, picks.size), (things, size))

    def test_every_number_of_things_up_to_200_is_taken(self):
        for things in range(201):
            for size in (0, things // 2, things):
                self.assertEqual(Picks(things, size).things, things)

    def test_fields_are_whole_numbers_as_handed_in(self):
        picks = Picks(5, 3)
        self.assertIs(type(picks.things), int)
        self.assertIs(type(picks.size), int)
        self.assertEqual(vars(picks)["things"], 5)
        self.assertEqual(vars(picks)["size"], 3)

    def test_fields_are_each_object_s_own(self):
        one, other = Picks(5, 3), Picks(9, 0)
        self.assertEqual((one.things, one.size, other.things, other.size), (5, 3, 9, 0))

    def test_arguments_can_be_named(self):
        picks = Picks(size=2, things=6)
        self.assertEqual((picks.things, picks.size), (6, 2))

    def test_one_beyond_and_further_is_refused(self):
        wrong = [(201, 0), (201, 5), (201, 201), (202, 1), (1000, 3), (HUGE, 0), (HUGE, HUGE),
                 (-1, 0), (-1, -1), (-2, -1), (-HUGE, 0), (5, 6), (5, -1), (0, 1), (0, -1),
                 (200, 201), (200, -1), (5, HUGE), (5, -HUGE), (1, 2), (3, 200)]
        for things, size in wrong:
            with self.subTest(at=wrong.index((things, size))):
                assert_refused(self, NoBounds, Picks, things, size)

    def test_things_of_no_whole_number_are_refused(self):
        for at, wrong in enumerate(no_whole_numbers()):
            for size in (0, 1, 3):
                with self.subTest(at=at, size=size):
                    assert_refused(self, NoBounds, Picks, wrong, size)

    def test_size_of_no_whole_number_is_refused(self):
        for at, wrong in enumerate(no_whole_numbers()):
            for things in (0, 1, 5, 200):
                with self.subTest(at=at, things=things):
                    assert_refused(self, NoBounds, Picks, things, wrong)

    def test_both_of_no_whole_number_are_refused(self):
        for at, wrong in enumerate(no_whole_numbers()):
            with self.subTest(at=at):
                assert_refused(self, NoBounds, Picks, wrong, wrong)
                assert_refused(self, NoBounds, Picks, 201, wrong)
                assert_refused(self, NoBounds, Picks, wrong, -1)


if __name__ == "__main__":
    unittest.main()
