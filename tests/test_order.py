"""[4] and [5]: the order, held against one put together from the words."""

import unittest

from doorpicks.picks import Picks
from helper import assert_alike, counts, order, small_bounds, spread

LARGE = [(200, 100), (200, 1), (200, 2), (200, 3), (200, 50), (200, 150), (200, 199), (199, 99),
         (150, 75), (101, 37), (64, 32), (30, 11), (200, 198)]


def number_by_words(pick, things, many):
    """The number of a pick, by going down the words of [4]."""
    size = len(pick)
    if size == 0:
        return 0
    if pick[-1] != things - 1:
        return number_by_words(pick, things - 1, many)
    ahead = many[things - 1][size]
    turned = many[things - 1][size - 1] - 1 - number_by_words(pick[:-1], things - 1, many)
    return ahead + turned


class TestSmallOrder(unittest.TestCase):
    def test_written_out_by_hand(self):
        self.assertEqual([Picks(4, 2).at(k) for k in range(6)],
                         [(0, 1), (1, 2), (0, 2), (2, 3), (1, 3), (0, 3)])
        self.assertEqual([Picks(3, 1).at(k) for k in range(3)], [(0,), (1,), (2,)])
        self.assertEqual([Picks(4, 3).at(k) for k in range(4)],
                         [(0, 1, 2), (0, 2, 3), (1, 2, 3), (0, 1, 3)])

    def test_of_size_none_there_is_just_the_empty_pick(self):
        for things in (0, 1, 2, 10, 200):
            picks = Picks(things, 0)
            self.assertEqual(picks.many(), 1)
            self.assertEqual(picks.at(0), ())
            self.assertEqual(picks.number(()), 0)

    def test_of_all_things_there_is_but_one(self):
        for things in (0, 1, 2, 10, 200):
            picks = Picks(things, things)
            self.assertEqual(picks.many(), 1)
            self.assertEqual(picks.at(0), tuple(range(things)))
            self.assertEqual(picks.number(tuple(range(things))), 0)

    def test_whole_order_by_the_words(self):
        for things, size in small_bounds(11):
            with self.subTest(things=things, size=size):
                picks = Picks(things, size)
                told = order(things, size)
                self.assertEqual(picks.many(), len(told))
                assert_alike(self, [picks.at(k) for k in range(len(told))], told)
                assert_alike(self, [picks.number(pick) for pick in told], list(range(len(told))))

    def test_without_the_greatest_first_then_those_with_it_turned_about(self):
        for things, size in small_bounds(9):
            if 0 < size < things:
                whole = [Picks(things, size).at(k) for k in range(Picks(things, size).many())]
                less, fewer = Picks(things - 1, size), Picks(things - 1, size - 1)
                without = [less.at(k) for k in range(less.many())]
                turned = [fewer.at(k) + (things - 1,) for k in reversed(range(fewer.many()))]
                assert_alike(self, whole, without + turned)

    def test_many_is_a_whole_number(self):
        self.assertIs(type(Picks(5, 2).many()), int)
        self.assertIs(type(Picks(5, 2).number((0, 1))), int)


class TestLargeOrder(unittest.TestCase):
    def setUp(self):
        self.many = counts(200)

    def test_how_many_there_are(self):
        for things in range(201):
            for size in range(things + 1):
                self.assertEqual(Picks(things, size).many(), self.many[things][size])

    def test_first_and_last(self):
        for things in (2, 3, 10, 57, 199, 200):
            for size in range(1, things):
                picks = Picks(things, size)
                last = tuple(range(size - 1)) + (things - 1,)
                self.assertEqual(picks.at(0), tuple(range(size)))
                self.assertEqual(picks.number(tuple(range(size))), 0)
                self.assertEqual(picks.at(picks.many() - 1), last)
                self.assertEqual(picks.number(last), picks.many() - 1)

    def test_at_and_number_lead_from_one_to_the_other(self):
        for things, size in LARGE:
            picks = Picks(things, size)
            for number in spread(picks.many()):
                with self.subTest(things=things, size=size, number=number):
                    pick = picks.at(number)
                    self.assertIs(type(pick), tuple)
                    self.assertEqual(len(pick), size)
                    self.assertEqual(sorted(set(pick)), list(pick))
                    self.assertTrue(0 <= pick[0] and pick[-1] < things)
                    self.assertEqual(picks.number(pick), number)
                    self.assertEqual(number_by_words(pick, things, self.many), number)

    def test_every_number_of_middling_bounds(self):
        for things, size in ((200, 2), (40, 3), (16, 8), (19, 16)):
            picks = Picks(things, size)
            told = order(things, size)
            assert_alike(self, [picks.at(k) for k in range(picks.many())], told)
            assert_alike(self, [picks.number(pick) for pick in told], list(range(picks.many())))


class TestOneGoesOutAndOneComesIn(unittest.TestCase):
    def assert_one_out_one_in(self, picks, pick, following):
        out = set(pick) - set(following)
        come = set(following) - set(pick)
        self.assertEqual((len(out), len(come)), (1, 1))
        self.assertEqual(picks.change(pick), (min(out), min(come)))
        self.assertIs(type(picks.change(pick)), tuple)

    def test_of_all_small_picks(self):
        for things, size in small_bounds(10):
            picks = Picks(things, size)
            told = order(things, size)
            if len(told) > 1:
                for at, pick in enumerate(told):
                    self.assert_one_out_one_in(picks, pick, told[(at + 1) % len(told)])

    def test_of_large_picks_and_from_the_last_to_the_first(self):
        for things, size in LARGE:
            picks = Picks(things, size)
            for number in spread(picks.many()):
                following = picks.at((number + 1) % picks.many())
                self.assert_one_out_one_in(picks, picks.at(number), following)

    def test_same_number_however_many_things_there_are(self):
        for pick in order(7, 3) + order(6, 1) + order(8, 7) + [(), (3, 50, 98), tuple(range(0, 99, 2))]:
            fewest = max(pick, default=-1) + 1
            number = Picks(fewest, len(pick)).number(pick)
            for things in [fewest + 1, fewest + 2, fewest + 10, 150, 199, 200]:
                picks = Picks(things, len(pick))
                self.assertEqual(picks.number(pick), number)
                self.assertEqual(picks.at(number), pick)


if __name__ == "__main__":
    unittest.main()
