"""What several tests need: the order told by the words, and wrong things to hand in."""

from decimal import Decimal
from fractions import Fraction

HUGE = 10 ** 5000


class Hostile:
    """An object that fails whatever it is asked."""

    def _fail(self, *told):
        raise RuntimeError("asked")

    __eq__ = __ne__ = __lt__ = __le__ = __gt__ = __ge__ = _fail
    __hash__ = __bool__ = __len__ = __iter__ = __getitem__ = __contains__ = _fail
    __index__ = __int__ = __float__ = __repr__ = __str__ = __format__ = _fail
    __add__ = __radd__ = __sub__ = __rsub__ = __mod__ = __rmod__ = _fail
    __class__ = property(_fail)


# What is no row at all, of the kinds that the document names.
NO_ROWS = [0, 1, 3, -1, HUGE, True, False, None, "", "0", "012", "0 1 2", "none", "abc", 0.0, 1.5, float("nan")]


def nested_in_itself():
    row = [1]
    row.append(row)
    return row


def no_whole_numbers():
    """Things that are no whole numbers, of many kinds."""
    plain = [True, False, None, "", "0", "1", "3", "x", 0.0, 1.0, 3.0, 0.5,
             float("nan"), float("inf"), (), (1,), (1, 2), [], [1], [0, 1], nested_in_itself()]
    others = [1 + 0j, Fraction(3), Decimal(3), b"", b"3", {}, {1: 2}, set(), {1}, frozenset(),
              range(3), object(), int, len, lambda: 3, Hostile(), Hostile, NotImplemented, ...]
    return plain + others


def order(things, size):
    """The picks in their order, put together straight from the words of [4]."""
    if size == 0:
        return [()]
    if size > things:
        return []
    greatest = things - 1
    without = order(things - 1, size)
    those_with = [pick + (greatest,) for pick in reversed(order(things - 1, size - 1))]
    return without + those_with


def counts(most):
    """How many picks there are, by adding alone: counts(most)[things][size]."""
    rows = [[1] + [0] * (most + 1)]
    for _ in range(most):
        above = rows[-1]
        rows.append([1] + [above[k] + above[k - 1] for k in range(1, most + 2)])
    return rows


def small_bounds(most):
    return [(things, size) for things in range(most + 1) for size in range(things + 1)]


def spread(many):
    """Numbers below many, from all over: the ends, the middle and some between."""
    near = [k for k in range(6)] + [many // 2 + k for k in range(-3, 4)] + [many - k for k in range(1, 7)]
    between = [many * k // 37 + k * k * 7919 for k in range(37)]
    return sorted({number for number in near + between if 0 <= number < many})


def assert_refused(test, kind, call, *told):
    """The call is refused with just this kind of error, none above or below it."""
    with test.assertRaises(kind) as caught:
        call(*told)
    test.assertIs(type(caught.exception), kind)


def assert_alike(test, told, wanted):
    """Two long lists are alike; where they are not, no slow comparison is shown."""
    test.assertEqual(len(told), len(wanted))
    for at, (one, other) in enumerate(zip(told, wanted)):
        if one != other:
            test.fail(f"at {at}: {one!r} is not {other!r}")
