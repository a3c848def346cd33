"""Kinds: [7], and [1] and [2] as far as they speak of rows of kinds."""

import functools
import itertools
import unittest

from doorpicks.errors import NoBounds, NoNumber, NoPick, PickError
from doorpicks.kinds import Kinds
from helper import HUGE, NO_ROWS, Hostile, assert_alike, assert_refused, nested_in_itself, no_whole_numbers, spread

LARGE = [
    ((20,) * 12, 120), ((20,) * 12, 1), ((20,) * 12, 239), ((20,) * 12, 77), ((20,) * 12, 200),
    ((1,) * 12, 6), (tuple(range(12)), 30), (tuple(range(20, 8, -1)), 95), ((20, 0, 20, 0, 20, 0), 31),
    ((0, 0, 20, 1, 20, 0, 3, 20, 20, 0, 0, 7), 44), ((20, 20), 20), ((20,), 13), ((0,) * 11 + (20,), 20),
]


def order(counts, size):
    """The rows in their order, put together straight from the words of [7]."""
    return sorted(row for row in itertools.product(*(range(count + 1) for count in counts)) if sum(row) == size)


@functools.lru_cache(maxsize=None)
def how_many(counts, size):
    """How many rows there are, kind by kind."""
    if size < 0:
        return 0
    if not counts:
        return int(size == 0)
    return sum(how_many(counts[1:], size - picked) for picked in range(counts[0] + 1))


def number_by_words(row, counts):
    """How many rows stand ahead of a row: those alike up to a kind, of which they have fewer."""
    return sum(how_many(counts[kind + 1:], sum(row[kind:]) - fewer)
               for kind in range(len(row)) for fewer in range(row[kind]))


def few_kinds():
    """Counts of a few kinds of few things."""
    told = [counts for kinds in range(4) for counts in itertools.product(range(4), repeat=kinds)]
    return told + [(1, 2, 3, 4), (4, 3, 2, 1), (0, 2, 0, 2), (1,) * 6, (2, 0, 1, 2, 0), (5, 0, 5), (20,), (7, 9)]


class TestBounds(unittest.TestCase):
    def assert_taken(self, counts, size):
        kinds = Kinds(counts, size)
        self.assertEqual((kinds.counts, kinds.size), (tuple(counts), size))
        self.assertIs(type(kinds.counts), tuple)
        self.assertIs(type(kinds.size), int)

    def test_counts_and_sizes_that_are_taken(self):
        for counts in few_kinds():
            for size in range(sum(counts) + 1):
                self.assert_taken(counts, size)
                self.assert_taken(list(counts), size)

    def test_at_the_bounds(self):
        for counts in ((), (0,), (20,), (0,) * 12, (20,) * 12, (0, 20) * 6, (1,) * 12):
            for size in {0, sum(counts) // 2, sum(counts)}:
                self.assert_taken(counts, size)
                self.assert_taken(list(counts), size)

    def test_arguments_can_be_named(self):
        kinds = Kinds(size=2, counts=(1, 2))
        self.assertEqual((kinds.counts, kinds.size), ((1, 2), 2))
        self.assertEqual(vars(kinds)["counts"], (1, 2))
        self.assertEqual(vars(kinds)["size"], 2)

    def test_wrong_counts_are_refused(self):
        wrong = [(0,) * 13, (1,) * 13, (20,) * 13, (0,) * 500, (21,), (0, 21), (20, 21, 20), (100,), (HUGE,),
                 (-1,), (0, -1), (3, -1, 3), (-HUGE,), (1, -HUGE), (20,) * 11 + (21,), (-1,) + (20,) * 11]
        for at, counts in enumerate(wrong):
            for size in (0, 1, 3):
                with self.subTest(at=at, size=size):
                    assert_refused(self, NoBounds, Kinds, counts, size)
                    assert_refused(self, NoBounds, Kinds, list(counts), size)

    def test_counts_that_are_no_whole_numbers_are_refused(self):
        for at, wrong in enumerate(no_whole_numbers()):
            for counts in ((wrong,), (2, wrong), (wrong, 2), [wrong], [2, wrong, 2], (20,) * 11 + (wrong,)):
                for size in (0, 1):
                    with self.subTest(at=at, size=size):
                        assert_refused(self, NoBounds, Kinds, counts, size)

    def test_counts_that_are_no_tuple_or_list_are_refused(self):
        wrong = [other for other in no_whole_numbers() if type(other) not in (tuple, list)]
        wrong += [0, 1, 20, -1, HUGE, "12", "none", b"\x01\x02", {0: 1}, {1, 2}, iter([1]), range(3),
                  (count for count in (1, 2)), {1: 1}.values(), Hostile(), Hostile, tuple, list]
        for at, counts in enumerate(wrong):
            for size in (0, 1, 3):
                with self.subTest(at=at, size=size):
                    assert_refused(self, NoBounds, Kinds, counts, size)

    def test_counts_nested_in_themselves_are_refused(self):
        assert_refused(self, NoBounds, Kinds, nested_in_itself(), 1)

    def test_wrong_sizes_are_refused(self):
        for counts in ((), (0,), (1,), (0, 0), (2, 3), (20,), (20,) * 12):
            whole = sum(counts)
            for at, size in enumerate([-1, -2, -HUGE, whole + 1, whole + 2, whole + 100, HUGE]):
                with self.subTest(counts=counts, at=at):
                    assert_refused(self, NoBounds, Kinds, counts, size)

    def test_sizes_that_are_no_whole_numbers_are_refused(self):
        for at, size in enumerate(no_whole_numbers()):
            for counts in ((), (0,), (3, 3), (20,) * 12):
                with self.subTest(counts=counts, at=at):
                    assert_refused(self, NoBounds, Kinds, counts, size)

    def test_both_wrong_are_refused(self):
        for at, wrong in enumerate(no_whole_numbers()):
            with self.subTest(at=at):
                assert_refused(self, NoBounds, Kinds, (21,), wrong)
                assert_refused(self, NoBounds, Kinds, (wrong,), -1)
                assert_refused(self, NoBounds, Kinds, wrong, -1)
                assert_refused(self, NoBounds, Kinds, wrong, wrong)


class TestOrder(unittest.TestCase):
    def test_written_out_by_hand(self):
        kinds = Kinds((2, 1, 2), 3)
        self.assertEqual([kinds.at(k) for k in range(kinds.many())],
                         [(0, 1, 2), (1, 0, 2), (1, 1, 1), (2, 0, 1), (2, 1, 0)])

    def test_of_no_kinds_there_is_just_the_empty_row(self):
        for counts in ((), []):
            kinds = Kinds(counts, 0)
            self.assertEqual((kinds.many(), kinds.at(0), kinds.number(())), (1, (), 0))

    def test_none_and_all_are_picked_in_one_way(self):
        for counts in few_kinds() + [(20,) * 12, (0,) * 12]:
            for size, row in ((0, (0,) * len(counts)), (sum(counts), counts)):
                kinds = Kinds(counts, size)
                self.assertEqual((kinds.many(), kinds.at(0), kinds.number(row)), (1, row, 0))

    def test_whole_order_by_the_words(self):
        for counts in few_kinds():
            for size in range(sum(counts) + 1):
                with self.subTest(counts=counts, size=size):
                    kinds = Kinds(counts, size)
                    told = order(counts, size)
                    self.assertEqual(kinds.many(), len(told))
                    assert_alike(self, [kinds.at(k) for k in range(len(told))], told)
                    assert_alike(self, [kinds.number(row) for row in told], list(range(len(told))))

    def test_numbers_of_any_greatness(self):
        for counts, size in LARGE:
            kinds = Kinds(counts, size)
            self.assertEqual(kinds.many(), how_many(counts, size))
            self.assertIs(type(kinds.many()), int)
            numbers = spread(kinds.many())
            rows = [kinds.at(number) for number in numbers]
            self.assertEqual(rows, sorted(set(rows)))
            for number, row in zip(numbers, rows):
                with self.subTest(counts=counts, size=size, number=number):
                    self.assertIs(type(row), tuple)
                    self.assertEqual((len(row), sum(row)), (len(counts), size))
                    self.assertTrue(all(type(n) is int and 0 <= n <= most for n, most in zip(row, counts)))
                    self.assertEqual(kinds.number(row), number)
                    self.assertEqual(number_by_words(row, counts), number)

    def test_first_and_last(self):
        for counts, size in LARGE:
            kinds = Kinds(counts, size)
            last, rest = [], size
            for count in counts:
                last.append(min(count, rest))
                rest -= last[-1]
            first, rest = [], size
            for count in reversed(counts):
                first.insert(0, min(count, rest))
                rest -= first[0]
            self.assertEqual((kinds.at(0), kinds.number(tuple(first))), (tuple(first), 0))
            self.assertEqual(kinds.at(kinds.many() - 1), tuple(last))
            self.assertEqual(kinds.number(tuple(last)), kinds.many() - 1)


# Of the counts 2, 0, 3, 1 and the size 4.
NO_KINDS = [
    (2, 0, 3, 1), (0, 0, 3, 0), (0, 0, 0, 0), (2, 0, 1, 0), [2, 0, 3, 1],
    (3, 0, 1, 0), (0, 0, 4, 0), (0, 1, 3, 0), (1, 0, 1, 2), (0, 0, 0, 4), (HUGE, 0, 0, 0), [3, 0, 1, 0],
    (-1, 0, 3, 1), (2, -1, 3, 0), (2, 0, 3, -1), (-HUGE, 0, 3, 1), (HUGE, -HUGE, 3, 1), [2, 0, 3, -1],
    (), [], (1, 0, 3), (1, 3), (4,), (1, 0, 3, 0, 0), (0, 1, 0, 3, 0), [1, 0, 3], [1, 0, 3, 0, 0], (0,) * 500,
    (True, 0, 3, 0), (1, False, 3, 0), (1, 0, 3, False), (0, 0, 3, True), [True, 0, 3, 0],
    (1.0, 0, 3, 0), (1, 0.0, 3, 0), (0.5, 0, 3, 0.5), (float("nan"), 0, 3, 0), (1, 0, 3, float("inf")),
    ("1", 0, 3, 0), (1, "", 3, 0), (1, 0, "3", 0), (None, 0, 3, 1), (1, None, 3, 0), (1, (), 3, 0), (1, [], 3, 0),
    ((1,), 0, 3, 0), ([1], 0, 3, 0), ((1, 0, 3, 0),), [[1, 0, 3, 0]], ([], [], [], []), [None] * 4, ("1030",),
    nested_in_itself(), (1, 0, 3, nested_in_itself()),
]


class TestNoPick(unittest.TestCase):
    def test_of_four_kinds(self):
        for at, wrong in enumerate(NO_KINDS + NO_ROWS + ["1030", "1 0 3 0", 1030]):
            with self.subTest(at=at):
                assert_refused(self, NoPick, Kinds((2, 0, 3, 1), 4).number, wrong)

    def test_every_row_that_is_none_of_them(self):
        for counts in ((2, 1, 2), (0, 3), (1,), ()):
            for size in range(sum(counts) + 1):
                kinds = Kinds(counts, size)
                good = order(counts, size)
                for places in range(len(counts) + 2):
                    for row in itertools.product(range(-1, 5), repeat=places):
                        if row not in good:
                            assert_refused(self, NoPick, kinds.number, row)
                            assert_refused(self, NoPick, kinds.number, list(row))

    def test_of_no_kinds(self):
        for at, wrong in enumerate(NO_ROWS + [(0,), [0], (None,), (False,), ((),), [[]]]):
            with self.subTest(at=at):
                assert_refused(self, NoPick, Kinds((), 0).number, wrong)

    def test_of_one_kind(self):
        for at, wrong in enumerate(NO_ROWS + [(), [], (0,), (2,), (-1,), (True,), ("1",), ((1,),), (1, 0), (0, 1)]):
            with self.subTest(at=at):
                assert_refused(self, NoPick, Kinds((1,), 1).number, wrong)

    def test_of_twelve_kinds(self):
        kinds = Kinds((20,) * 12, 230)
        good = (10,) + (20,) * 11
        self.assertEqual(kinds.number(good), 0)
        for wrong in ((9, 21) + (20,) * 10, (10,) + (20,) * 10, good + (0,), (11,) + (20,) * 11, (20,) * 12):
            assert_refused(self, NoPick, kinds.number, wrong)


class TestNoNumber(unittest.TestCase):
    def test_beyond_the_ends(self):
        for counts, size in [((), 0), ((0,), 0), ((3,), 2), ((2, 2), 2), ((1, 2, 3), 3)] + LARGE:
            kinds = Kinds(counts, size)
            many = kinds.many()
            self.assertEqual(len(kinds.at(many - 1)), len(counts))
            for at, wrong in enumerate([-1, -2, -many, many, many + 1, 2 * many, HUGE, -HUGE]):
                with self.subTest(counts=counts, size=size, at=at):
                    assert_refused(self, NoNumber, kinds.at, wrong)

    def test_of_no_whole_number(self):
        for counts, size in (((), 0), ((3,), 2), ((2, 2), 2), ((20,) * 12, 120)):
            for at, wrong in enumerate(no_whole_numbers()):
                with self.subTest(counts=counts, size=size, at=at):
                    assert_refused(self, NoNumber, Kinds(counts, size).at, wrong)


class TestHandedIn(unittest.TestCase):
    def test_counts_may_be_changed_afterwards(self):
        counts = [2, 1, 2]
        kinds = Kinds(counts, 3)
        told = order((2, 1, 2), 3)
        for change in (lambda: counts.append(5), lambda: counts.insert(0, 9), counts.clear):
            change()
            self.assertEqual((kinds.counts, kinds.size, kinds.many()), ((2, 1, 2), 3, len(told)))
            self.assertEqual([kinds.at(k) for k in range(len(told))], told)
            self.assertEqual([kinds.number(row) for row in told], list(range(len(told))))
            assert_refused(self, NoPick, kinds.number, (2, 1, 0, 0))

    def test_counts_are_not_changed(self):
        counts = [2, 0, 3]
        kinds = Kinds(counts, 4)
        for number in range(kinds.many()):
            kinds.number(list(kinds.at(number)))
        self.assertEqual(counts, [2, 0, 3])

    def test_a_list_is_taken_as_a_tuple(self):
        one, other = Kinds((2, 1, 2), 3), Kinds([2, 1, 2], 3)
        for at, row in enumerate(order((2, 1, 2), 3)):
            handed = list(row)
            self.assertEqual((one.number(handed), other.number(row)), (at, at))
            self.assertEqual((one.at(at), other.at(at)), (row, row))
            self.assertEqual(handed, list(row))

    def test_rows_may_be_changed_afterwards(self):
        kinds = Kinds((2, 1, 2), 3)
        row = [1, 1, 1]
        self.assertEqual(kinds.number(row), 2)
        row[1] = 0
        assert_refused(self, NoPick, kinds.number, row)
        self.assertEqual((kinds.at(2), kinds.number((1, 1, 1))), ((1, 1, 1), 2))

    def test_nothing_that_is_refused_is_changed(self):
        kinds = Kinds((2, 1, 2), 3)
        for wrong in ([2, 1, 2], [1, 1], [True, 1, 1], [[1], 1, 1]):
            held = repr(wrong)
            with self.assertRaises(PickError):
                kinds.number(wrong)
            self.assertEqual(repr(wrong), held)
        counts = [1, 21, [2]]
        assert_refused(self, NoBounds, Kinds, counts, 1)
        self.assertEqual(counts, [1, 21, [2]])

    def test_fields_are_each_object_s_own(self):
        one, other = Kinds([1, 2], 2), Kinds((3,), 0)
        self.assertEqual((one.counts, one.size, other.counts, other.size), ((1, 2), 2, (3,), 0))
        self.assertEqual((one.many(), other.many()), (2, 1))

    def test_answers_stay_the_same_when_asked_again(self):
        kinds = Kinds((3, 1, 2, 2), 4)
        for _ in range(3):
            self.assertEqual([kinds.at(k) for k in range(kinds.many())], order((3, 1, 2, 2), 4))


if __name__ == "__main__":
    unittest.main()
