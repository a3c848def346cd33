"""[1]: what is handed in stays as it is, and nothing hangs on it."""

import unittest

from doorpicks.errors import NoPick, PickError
from doorpicks.picks import Picks
from helper import assert_refused, order


class TestHandedIn(unittest.TestCase):
    def test_a_list_is_taken_as_a_tuple(self):
        picks = Picks(6, 3)
        for at, pick in enumerate(order(6, 3)):
            row = list(pick)
            self.assertEqual(picks.number(row), at)
            self.assertEqual(picks.step(row, 1), picks.step(pick, 1))
            self.assertEqual(picks.change(row), picks.change(pick))
            self.assertEqual(picks.compared(row, pick), 0)
            self.assertEqual(picks.compared(pick, row), 0)

    def test_the_empty_list_is_the_empty_pick(self):
        picks = Picks(4, 0)
        self.assertEqual(picks.number([]), 0)
        self.assertEqual(picks.step([], 3), ())
        self.assertEqual(picks.compared([], ()), 0)

    def test_nothing_that_is_handed_in_is_changed(self):
        picks = Picks(6, 3)
        one, other = [0, 2, 5], [1, 2, 3]
        picks.number(one)
        picks.step(one, 4)
        picks.change(one)
        picks.compared(one, other)
        self.assertEqual((one, other), ([0, 2, 5], [1, 2, 3]))

    def test_nothing_that_is_refused_is_changed(self):
        picks = Picks(6, 3)
        for wrong in ([5, 2, 0], [1, 1, 2], [0, 1], [0, 1, 9], [[0], 1, 2]):
            held = repr(wrong)
            for call in (picks.number, picks.change, lambda row: picks.step(row, 1),
                         lambda row: picks.compared(row, row)):
                with self.assertRaises(PickError):
                    call(wrong)
            self.assertEqual(repr(wrong), held)

    def test_what_is_handed_in_may_be_changed_afterwards(self):
        picks = Picks(6, 3)
        row = [0, 2, 5]
        number = picks.number(row)
        stepped = picks.step(row, 0)
        changed = picks.change(row)
        row[0] = 1
        self.assertEqual(stepped, (0, 2, 5))
        self.assertEqual(changed, picks.change((0, 2, 5)))
        self.assertEqual(picks.number((0, 2, 5)), number)
        self.assertEqual(picks.number(row), picks.number((1, 2, 5)))
        self.assertNotEqual(picks.number(row), number)
        row.append(5)
        assert_refused(self, NoPick, picks.number, row)
        self.assertEqual(picks.at(number), (0, 2, 5))

    def test_told_is_a_tuple_of_whole_numbers(self):
        picks = Picks(6, 3)
        for told in (picks.at(7), picks.step([0, 1, 2], 2), picks.step((0, 1, 2), 0), picks.change([0, 1, 2])):
            self.assertIs(type(told), tuple)
            self.assertTrue(all(type(thing) is int for thing in told))

    def test_answers_stay_the_same_when_asked_again(self):
        picks = Picks(7, 4)
        first = [picks.at(k) for k in range(picks.many())]
        for pick in first:
            picks.step(pick, 3)
            picks.change(pick)
        assert_refused(self, NoPick, picks.number, [3, 2, 1, 0])
        self.assertEqual([picks.at(k) for k in range(picks.many())], first)
        self.assertEqual((picks.things, picks.size), (7, 4))


if __name__ == "__main__":
    unittest.main()
