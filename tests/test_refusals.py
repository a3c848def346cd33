"""[2] and NoNumber: what is no pick, and what is no number of one."""

import unittest

from doorpicks.errors import NoNumber, NoPick
from doorpicks.picks import Picks
from helper import HUGE, NO_ROWS, assert_refused, nested_in_itself, no_whole_numbers

# Of 3 things out of 5.
NO_PICKS = [
    (0, 2, 1), (2, 1, 0), (1, 0, 2), (3, 4, 2), [2, 1, 0],
    (0, 0, 1), (0, 1, 1), (2, 2, 2), [1, 1, 2],
    (-1, 0, 1), (-3, -2, -1), (0, 1, 5), (0, 1, 200), (5, 6, 7), (-HUGE, 0, 1), (0, 1, HUGE), [0, 1, 5],
    (), [], (0,), (0, 1), (1, 4), (0, 1, 2, 3), (0, 1, 2, 3, 4), [0, 1], [0, 1, 2, 3], (0,) * 500,
    tuple(range(300)),
    (True, 2, 3), (False, 1, 2), (0, True, 2), (0, 1, True), ("0", "1", "2"), (0, 1, "2"), ("", 1, 2),
    (None, 1, 2), (0, 1, None), (0, None, 2), ((0,), 1, 2), (0, 1, (2,)), ((), (), ()), ([0], 1, 2),
    ([0, 1, 2],), ((0, 1, 2),), (0, 1, 2.0), (0.0, 1.0, 2.0), (0, 1.5, 3), (float("nan"), 1, 2),
    [True, 2, 3], [0, 1, "2"], [0, None, 2], [0, 1, [2]], nested_in_itself(), (0, 1, nested_in_itself()),
]


class TestNoPick(unittest.TestCase):
    def assert_no_pick(self, picks, good, wrong):
        assert_refused(self, NoPick, picks.number, wrong)
        assert_refused(self, NoPick, picks.change, wrong)
        for by in (0, 1, -1, HUGE):
            assert_refused(self, NoPick, picks.step, wrong, by)
        assert_refused(self, NoPick, picks.compared, wrong, good)
        assert_refused(self, NoPick, picks.compared, good, wrong)
        assert_refused(self, NoPick, picks.compared, wrong, wrong)

    def test_of_three_out_of_five(self):
        for at, wrong in enumerate(NO_PICKS + NO_ROWS):
            with self.subTest(at=at):
                self.assert_no_pick(Picks(5, 3), (0, 1, 2), wrong)

    def test_of_the_empty_pick(self):
        for at, wrong in enumerate(NO_ROWS + [(0,), [0], (0, 1), (None,), (False,), ((),), [[]]]):
            for things in (0, 1, 5):
                with self.subTest(at=at, things=things):
                    self.assert_no_pick(Picks(things, 0), (), wrong)

    def test_of_one_thing(self):
        for at, wrong in enumerate(NO_ROWS + [(), [], (-1,), (3,), (4,), (True,), (False,), ("0",), ((0,),), (0, 1)]):
            with self.subTest(at=at):
                self.assert_no_pick(Picks(3, 1), (0,), wrong)

    def test_of_all_things(self):
        for at, wrong in enumerate(NO_ROWS + [(), (0,), (0, 2), (1, 0), (1, 2), (0, 1, 2), (False, True), [0, True]]):
            with self.subTest(at=at):
                self.assert_no_pick(Picks(2, 2), (0, 1), wrong)

    def test_of_no_things(self):
        for at, wrong in enumerate(NO_ROWS + [(0,), [0], (-1,)]):
            with self.subTest(at=at):
                self.assert_no_pick(Picks(0, 0), (), wrong)

    def test_greatest_thing_at_its_bound(self):
        self.assertEqual(Picks(200, 1).number((199,)), 199)
        self.assert_no_pick(Picks(200, 1), (0,), (200,))
        self.assert_no_pick(Picks(199, 1), (0,), (199,))


class TestNoNumber(unittest.TestCase):
    def test_beyond_the_ends(self):
        for things, size in ((0, 0), (1, 0), (1, 1), (5, 3), (4, 2), (200, 0), (200, 1), (200, 100), (200, 200)):
            picks = Picks(things, size)
            many = picks.many()
            self.assertEqual(len(picks.at(many - 1)), size)
            for at, wrong in enumerate([-1, -2, -many, many, many + 1, 2 * many, HUGE, -HUGE]):
                with self.subTest(things=things, size=size, at=at):
                    assert_refused(self, NoNumber, picks.at, wrong)

    def test_of_no_whole_number(self):
        for picks in (Picks(0, 0), Picks(5, 3), Picks(2, 2), Picks(200, 100)):
            for at, wrong in enumerate(no_whole_numbers()):
                with self.subTest(things=picks.things, at=at):
                    assert_refused(self, NoNumber, picks.at, wrong)


if __name__ == "__main__":
    unittest.main()
