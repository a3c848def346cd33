"""All picks of so many things out of so many, in their order."""

from math import comb

from doorpicks.checks import MOST_THINGS, is_rising, is_whole
from doorpicks.errors import NoBounds, NoChange, NoNumber, NoPick


class Picks:
    """All picks of size things out of so many, numbered from 0 on."""

    # No message shows what was handed in: Python refuses to write out a
    # number of very many figures, and that would be another error.

    def __init__(self, things, size):
        if not is_whole(things, 0, MOST_THINGS):
            raise NoBounds("things is no whole number from 0 to 200")
        if not is_whole(size, 0, things):
            raise NoBounds("size is no whole number from 0 to things")
        self.things = things
        self.size = size

    def many(self):
        """Tell how many picks there are."""
        return comb(self.things, self.size)

    def number(self, one):
        """Tell the number of a pick."""
        if not is_rising(one, self.things) or len(one) != self.size:
            raise NoPick("this is none of the picks")
        # A pick is among the picks out of no more things than up to its
        # greatest one. There, those with the greatest thing stand last, turned
        # about: its number, counted from the end, is that of its other things.
        place = 0
        for size, thing in enumerate(one, start=1):
            place = comb(thing + 1, size) - 1 - place
        return place

    def at(self, number):
        """Tell the pick of a number."""
        if not is_whole(number, 0, self.many() - 1):
            raise NoNumber("no pick has this number")
        picked = []
        place = number
        greatest = self.things
        for size in range(self.size, 0, -1):
            # The picks without a thing stand ahead of those with it, so the
            # greatest thing is the first that has no more ahead than the place.
            while comb(greatest, size) > place:
                greatest -= 1
            picked.append(greatest)
            place = comb(greatest + 1, size) - 1 - place
        return tuple(reversed(picked))

    def step(self, one, by):
        """Tell the pick that comes so many steps on, round the end."""
        return self.at((self.number(one) + by) % self.many())

    def change(self, pick):
        """Tell the pair of the things that go out and come in to the next pick."""
        following = self.step(pick, 1)
        if self.many() == 1:
            raise NoChange("there is but one pick")
        gone = [thing for thing in pick if thing not in following]
        come = [thing for thing in following if thing not in pick]
        return gone[0], come[0]

    def compared(self, one, other):
        """Tell -1 where the first pick comes ahead, 0 where they are alike, else 1."""
        first = self.number(one)
        second = self.number(other)
        if first < second:
            return -1
        if first > second:
            return 1
        return 0
