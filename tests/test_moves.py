"""step, change and compared."""

import unittest

from doorpicks.errors import NoChange
from doorpicks.picks import Picks
from helper import HUGE, assert_refused, order, small_bounds, spread


class TestStep(unittest.TestCase):
    def test_by_any_number_round_the_end(self):
        for things, size in small_bounds(7):
            picks = Picks(things, size)
            told = order(things, size)
            many = len(told)
            steps = [0, 1, -1, 2, -2, 5, -7, many - 1, many, many + 1, -many, -many - 1, 1 - many,
                     3 * many + 2, -4 * many - 3, HUGE, -HUGE, HUGE + 1, 2 ** 64]
            for at, pick in enumerate(told):
                for by in steps:
                    self.assertEqual(picks.step(pick, by), told[(at + by) % many])

    def test_of_large_picks(self):
        picks = Picks(200, 100)
        many = picks.many()
        for number in spread(many):
            pick = picks.at(number)
            for by in (0, 1, -1, many // 3, -many // 3, many, many + 1, -many - 1, HUGE, -HUGE):
                self.assertEqual(picks.step(pick, by), picks.at((number + by) % many))
            self.assertEqual(picks.step(picks.step(pick, many // 7), -(many // 7)), pick)

    def test_round_the_end_both_ways(self):
        picks = Picks(5, 3)
        self.assertEqual(picks.step((0, 1, 4), 1), (0, 1, 2))
        self.assertEqual(picks.step((0, 1, 2), -1), (0, 1, 4))

    def test_where_there_is_but_one_pick(self):
        for picks, pick in ((Picks(0, 0), ()), (Picks(9, 0), ()), (Picks(3, 3), (0, 1, 2)),
                            (Picks(200, 200), tuple(range(200)))):
            for by in (0, 1, -1, 2, 17, -400, HUGE, -HUGE):
                self.assertEqual(picks.step(pick, by), pick)

    def test_told_is_a_tuple(self):
        for by in (0, 1, -1, 10):
            self.assertIs(type(Picks(5, 3).step([0, 1, 2], by)), tuple)


class TestChange(unittest.TestCase):
    def test_pair_of_what_goes_out_and_what_comes_in(self):
        picks = Picks(4, 2)
        told = [picks.change(pick) for pick in order(4, 2)]
        self.assertEqual(told, [(0, 2), (1, 0), (0, 3), (2, 1), (1, 0), (3, 1)])

    def test_leads_to_the_next(self):
        for things, size in small_bounds(8):
            picks = Picks(things, size)
            told = order(things, size)
            if len(told) > 1:
                for pick in told:
                    out, come = picks.change(pick)
                    changed = sorted([thing for thing in pick if thing != out] + [come])
                    self.assertEqual(tuple(changed), picks.step(pick, 1))
                    self.assertIn(out, pick)
                    self.assertNotIn(come, pick)

    def test_no_change_where_there_is_but_one_pick(self):
        for things in (0, 1, 2, 5, 199, 200):
            everything = tuple(range(things))
            assert_refused(self, NoChange, Picks(things, 0).change, ())
            assert_refused(self, NoChange, Picks(things, 0).change, [])
            assert_refused(self, NoChange, Picks(things, things).change, everything)
            assert_refused(self, NoChange, Picks(things, things).change, list(everything))

    def test_change_where_there_are_two(self):
        self.assertEqual(Picks(2, 1).change((0,)), (0, 1))
        self.assertEqual(Picks(2, 1).change((1,)), (1, 0))


class TestCompared(unittest.TestCase):
    def test_by_the_order(self):
        for things, size in small_bounds(6):
            picks = Picks(things, size)
            told = order(things, size)
            for at, one in enumerate(told):
                for place, other in enumerate(told):
                    answer = picks.compared(one, other)
                    self.assertEqual(answer, (at > place) - (at < place))
                    self.assertIs(type(answer), int)

    def test_of_large_picks(self):
        picks = Picks(200, 100)
        numbers = spread(picks.many())
        for low, high in zip(numbers, numbers[1:]):
            one, other = picks.at(low), picks.at(high)
            self.assertEqual(picks.compared(one, other), -1)
            self.assertEqual(picks.compared(other, one), 1)
            self.assertEqual(picks.compared(one, list(one)), 0)

    def test_not_by_python_s_order_of_tuples(self):
        self.assertEqual(Picks(4, 2).compared((1, 2), (0, 2)), -1)
        self.assertEqual(Picks(4, 2).compared((0, 3), (2, 3)), 1)


if __name__ == "__main__":
    unittest.main()
