"""All rows that tell how many of each kind are picked, in their order."""

from doorpicks.checks import is_whole
from doorpicks.errors import NoBounds, NoNumber, NoPick

MOST_KINDS = 12
MOST_OF_A_KIND = 20


def are_counts(asked):
    """Tell whether what is asked is a tuple or list that tells how many there are of each kind."""
    # The exact kind is asked for: whatever is handed in, no method of it is
    # called, which isinstance may do.
    if type(asked) not in (tuple, list) or len(asked) > MOST_KINDS:
        return False
    return all(is_whole(count, 0, MOST_OF_A_KIND) for count in asked)


def ways_from(counts, size):
    """Tell in how many ways so many are picked of the kinds from one on: ways[kind][so many]."""
    ways = [[1] + [0] * size]
    for count in reversed(counts):
        later = ways[-1]
        ways.append([sum(later[max(0, many - count):many + 1]) for many in range(size + 1)])
    ways.reverse()
    return ways


class Kinds:
    """All rows that tell how many of each kind are picked, size in all, numbered from 0 on."""

    def __init__(self, counts, size):
        if not are_counts(counts):
            raise NoBounds("counts is no tuple or list of at most 12 whole numbers from 0 to 20")
        if not is_whole(size, 0, sum(counts)):
            raise NoBounds("size is no whole number from 0 to the sum of counts")
        self.counts = tuple(counts)
        self.size = size
        self._ways = ways_from(self.counts, size)

    def many(self):
        """Tell how many rows there are."""
        return self._ways[0][self.size]

    def number(self, one):
        """Tell the number of a row."""
        if not self._has(one):
            raise NoPick("this is none of the rows")
        place = 0
        rest = self.size
        for later, picked in zip(self._ways[1:], one):
            # The rows with fewer of this kind stand ahead: of the later kinds
            # they have more than this one, up to all of the rest.
            place += sum(later[rest - picked + 1:rest + 1])
            rest -= picked
        return place

    def at(self, number):
        """Tell the row of a number."""
        if not is_whole(number, 0, self.many() - 1):
            raise NoNumber("no row has this number")
        row = []
        place = number
        rest = self.size
        for later in self._ways[1:]:
            picked = 0
            # The place is below the number of all the rows that begin so, so
            # this ends before more are picked than there are.
            while place >= later[rest - picked]:
                place -= later[rest - picked]
                picked += 1
            row.append(picked)
            rest -= picked
        return tuple(row)

    def _has(self, one):
        """Tell whether what is handed in is one of the rows."""
        if not isinstance(one, (tuple, list)) or len(one) != len(self.counts):
            return False
        for picked, count in zip(one, self.counts):
            if not is_whole(picked, 0, count):
                return False
        return sum(one) == self.size
