"""Sets: [6], and [1] and [2] as far as they speak of sets."""

import unittest

from doorpicks.errors import NoBounds, NoChange, NoNumber, NoPick, PickError
from doorpicks.sets import Sets
from helper import HUGE, NO_ROWS, assert_alike, assert_refused, nested_in_itself, no_whole_numbers, spread

LARGE = [20, 63, 64, 65, 100, 199, 200]


def order(things):
    """The sets in their order, put together straight from the words of [6]."""
    if things == 0:
        return [()]
    fewer = order(things - 1)
    return fewer + [some + (things - 1,) for some in reversed(fewer)]


def number_by_words(some, things):
    """The number of a set, by going down the words of [6]."""
    if things == 0:
        return 0
    if not some or some[-1] != things - 1:
        return number_by_words(some, things - 1)
    half = 2 ** (things - 1)
    return half + (half - 1 - number_by_words(some[:-1], things - 1))


class TestBounds(unittest.TestCase):
    def test_every_number_of_things_up_to_200_is_taken(self):
        for things in range(201):
            sets = Sets(things)
            self.assertEqual(sets.things, things)
            self.assertIs(type(sets.things), int)
            self.assertEqual(sets.many(), 2 ** things)
            self.assertIs(type(sets.many()), int)

    def test_the_argument_can_be_named(self):
        self.assertEqual(Sets(things=6).things, 6)

    def test_the_field_is_each_object_s_own(self):
        one, other = Sets(3), Sets(0)
        self.assertEqual((one.things, other.things), (3, 0))
        self.assertEqual(vars(one)["things"], 3)

    def test_beyond_the_bounds_is_refused(self):
        for at, wrong in enumerate([201, 202, 1000, HUGE, -1, -2, -200, -HUGE]):
            with self.subTest(at=at):
                assert_refused(self, NoBounds, Sets, wrong)

    def test_no_whole_number_is_refused(self):
        for at, wrong in enumerate(no_whole_numbers()):
            with self.subTest(at=at):
                assert_refused(self, NoBounds, Sets, wrong)


class TestOrder(unittest.TestCase):
    def test_written_out_by_hand(self):
        self.assertEqual([Sets(3).at(k) for k in range(8)],
                         [(), (0,), (0, 1), (1,), (1, 2), (0, 1, 2), (0, 2), (2,)])

    def test_of_no_things_there_is_just_the_empty_set(self):
        self.assertEqual(Sets(0).many(), 1)
        self.assertEqual(Sets(0).at(0), ())
        self.assertEqual(Sets(0).number(()), 0)

    def test_whole_order_by_the_words(self):
        for things in range(12):
            with self.subTest(things=things):
                sets = Sets(things)
                told = order(things)
                self.assertEqual(sets.many(), len(told))
                assert_alike(self, [sets.at(k) for k in range(len(told))], told)
                assert_alike(self, [sets.number(some) for some in told], list(range(len(told))))

    def test_first_and_last(self):
        for things in range(1, 201):
            sets = Sets(things)
            self.assertEqual(sets.at(0), ())
            self.assertEqual(sets.number(()), 0)
            self.assertEqual(sets.at(sets.many() - 1), (things - 1,))
            self.assertEqual(sets.number((things - 1,)), sets.many() - 1)

    def test_numbers_of_any_greatness(self):
        for things in LARGE:
            sets = Sets(things)
            for number in spread(sets.many()):
                with self.subTest(things=things, number=number):
                    some = sets.at(number)
                    self.assertIs(type(some), tuple)
                    self.assertEqual(sorted(set(some)), list(some))
                    self.assertTrue(all(type(thing) is int and 0 <= thing < things for thing in some))
                    self.assertEqual(sets.number(some), number)
                    self.assertEqual(number_by_words(some, things), number)

    def test_the_set_of_all_things(self):
        for things in range(201):
            everything = tuple(range(things))
            number = number_by_words(everything, things)
            self.assertEqual(Sets(things).number(everything), number)
            self.assertEqual(Sets(things).at(number), everything)

    def test_same_number_however_many_things_there_are(self):
        for some in order(6) + [(3, 50, 98), tuple(range(0, 99, 2)), (98,)]:
            fewest = max(some, default=-1) + 1
            number = Sets(fewest).number(some)
            for things in [fewest + 1, fewest + 2, fewest + 10, 150, 199, 200]:
                self.assertEqual(Sets(things).number(some), number)
                self.assertEqual(Sets(things).at(number), some)


class TestChange(unittest.TestCase):
    def assert_one_changes(self, sets, some, following):
        changed = set(some) ^ set(following)
        self.assertEqual(len(changed), 1)
        self.assertEqual(sets.change(some), min(changed))
        self.assertIs(type(sets.change(some)), int)

    def test_written_out_by_hand(self):
        self.assertEqual([Sets(3).change(some) for some in order(3)], [0, 1, 0, 2, 0, 1, 0, 2])
        self.assertEqual([Sets(1).change(()), Sets(1).change((0,))], [0, 0])

    def test_of_all_small_sets_round_the_end(self):
        for things in range(1, 11):
            sets = Sets(things)
            told = order(things)
            for at, some in enumerate(told):
                self.assert_one_changes(sets, some, told[(at + 1) % len(told)])

    def test_of_large_sets_round_the_end(self):
        for things in LARGE:
            sets = Sets(things)
            for number in spread(sets.many()):
                self.assert_one_changes(sets, sets.at(number), sets.at((number + 1) % sets.many()))

    def test_from_the_last_to_the_first(self):
        for things in range(1, 201):
            self.assertEqual(Sets(things).change((things - 1,)), things - 1)

    def test_no_change_of_no_things(self):
        assert_refused(self, NoChange, Sets(0).change, ())
        assert_refused(self, NoChange, Sets(0).change, [])

    def test_no_pick_comes_before_no_change(self):
        for at, wrong in enumerate(NO_ROWS + [(0,), [0], (None,), ((),)]):
            with self.subTest(at=at):
                assert_refused(self, NoPick, Sets(0).change, wrong)


class TestStep(unittest.TestCase):
    def test_by_any_number_round_the_end(self):
        for things in range(8):
            sets = Sets(things)
            told = order(things)
            many = len(told)
            steps = [0, 1, -1, 2, -2, 5, -7, many - 1, many, many + 1, -many, -many - 1, 1 - many,
                     3 * many + 2, -4 * many - 3, HUGE, -HUGE, HUGE + 1, 2 ** 64]
            for at, some in enumerate(told):
                for by in steps:
                    self.assertEqual(sets.step(some, by), told[(at + by) % many])

    def test_of_large_sets(self):
        sets = Sets(200)
        many = sets.many()
        for number in spread(many):
            some = sets.at(number)
            for by in (0, 1, -1, many // 3, -many // 3, many, many + 1, -many - 1, HUGE, -HUGE):
                self.assertEqual(sets.step(some, by), sets.at((number + by) % many))

    def test_round_the_end_both_ways(self):
        self.assertEqual(Sets(5).step((4,), 1), ())
        self.assertEqual(Sets(5).step((), -1), (4,))

    def test_told_is_a_tuple(self):
        for by in (0, 1, -1, 10):
            self.assertIs(type(Sets(5).step([0, 1, 2], by)), tuple)


# Of 5 things.
NO_SETS = [
    (1, 0), (4, 3, 2), (0, 2, 1), [2, 1], (0, 0), (1, 1, 2), (0, 4, 4), [3, 3], (0, 1, 2, 3, 4, 4),
    (-1,), (-1, 0), (-HUGE, 0), (5,), (0, 5), (200,), (4, 5), (0, HUGE), [5], [-1],
    (True,), (False,), (False, True), (0, True), (True, 2), ("0",), ("",), (0, "1"), (None,), (0, None),
    ((),), ((0,),), ([],), ([0],), [[0, 1]], (0, (1,)), (0.0,), (0, 1.0), (0.5,), (float("nan"),),
    [True], [None], ["1"], [0, [1]], nested_in_itself(), (0, nested_in_itself()), tuple(range(6)), (0,) * 500,
]


class TestNoPick(unittest.TestCase):
    def assert_no_set(self, sets, wrong):
        assert_refused(self, NoPick, sets.number, wrong)
        assert_refused(self, NoPick, sets.change, wrong)
        for by in (0, 1, -1, HUGE):
            assert_refused(self, NoPick, sets.step, wrong, by)

    def test_of_five_things(self):
        for at, wrong in enumerate(NO_SETS + NO_ROWS):
            with self.subTest(at=at):
                self.assert_no_set(Sets(5), wrong)

    def test_of_no_things(self):
        for at, wrong in enumerate(NO_ROWS + [(0,), [0], (-1,), (None,), (False,), ((),), [[]], (0, 1)]):
            with self.subTest(at=at):
                self.assert_no_set(Sets(0), wrong)

    def test_greatest_thing_at_its_bound(self):
        for things in (1, 2, 5, 64, 199, 200):
            self.assertEqual(Sets(things).number((things - 1,)), 2 ** things - 1)
            for wrong in ((things,), (things + 1,), (0, things), [things]):
                self.assert_no_set(Sets(things), wrong)


class TestNoNumber(unittest.TestCase):
    def test_beyond_the_ends(self):
        for things in (0, 1, 2, 5, 64, 200):
            sets = Sets(things)
            many = sets.many()
            for at, wrong in enumerate([-1, -2, -many, many, many + 1, 2 * many, HUGE, -HUGE]):
                with self.subTest(things=things, at=at):
                    assert_refused(self, NoNumber, sets.at, wrong)

    def test_of_no_whole_number(self):
        for things in (0, 1, 5, 200):
            for at, wrong in enumerate(no_whole_numbers()):
                with self.subTest(things=things, at=at):
                    assert_refused(self, NoNumber, Sets(things).at, wrong)


class TestHandedIn(unittest.TestCase):
    def test_a_list_is_taken_as_a_tuple(self):
        sets = Sets(5)
        for at, some in enumerate(order(5)):
            row = list(some)
            self.assertEqual(sets.number(row), at)
            self.assertEqual(sets.step(row, 1), sets.step(some, 1))
            self.assertEqual(sets.change(row), sets.change(some))
            self.assertEqual(row, list(some))

    def test_nothing_that_is_refused_is_changed(self):
        sets = Sets(5)
        for wrong in ([4, 2, 0], [1, 1, 2], [0, 1, 9], [[0], 1, 2]):
            held = repr(wrong)
            for call in (sets.number, sets.change, lambda row: sets.step(row, 1)):
                with self.assertRaises(PickError):
                    call(wrong)
            self.assertEqual(repr(wrong), held)

    def test_what_is_handed_in_may_be_changed_afterwards(self):
        sets = Sets(5)
        row = [0, 2]
        number = sets.number(row)
        stepped = sets.step(row, 0)
        changed = sets.change(row)
        row[0] = 1
        self.assertEqual(stepped, (0, 2))
        self.assertEqual(changed, sets.change((0, 2)))
        self.assertEqual(sets.number((0, 2)), number)
        self.assertEqual(sets.at(number), (0, 2))
        self.assertEqual(sets.number(row), sets.number((1, 2)))
        row.append(2)
        assert_refused(self, NoPick, sets.number, row)

    def test_answers_stay_the_same_when_asked_again(self):
        sets = Sets(6)
        for _ in range(2):
            self.assertEqual([sets.at(k) for k in range(sets.many())], order(6))
            for some in order(6):
                sets.step(some, 3)
                sets.change(some)


if __name__ == "__main__":
    unittest.main()
