"""All sets of so many things, in their order."""

from doorpicks.checks import MOST_THINGS, is_rising, is_whole
from doorpicks.errors import NoBounds, NoChange, NoNumber, NoPick


class Sets:
    """All sets of so many things, numbered from 0 on."""

    def __init__(self, things):
        if not is_whole(things, 0, MOST_THINGS):
            raise NoBounds("things is no whole number from 0 to 200")
        self.things = things

    def many(self):
        """Tell how many sets there are."""
        return 1 << self.things

    def number(self, one):
        """Tell the number of a set."""
        if not is_rising(one, self.things):
            raise NoPick("this is none of the sets")
        # A set is among the sets of no more things than up to its greatest
        # one. There, those with the greatest thing stand last, turned about:
        # its number, counted from the end, is that of its other things.
        place = 0
        for thing in one:
            place = (2 << thing) - 1 - place
        return place

    def at(self, number):
        """Tell the set of a number."""
        if not is_whole(number, 0, self.many() - 1):
            raise NoNumber("no set has this number")
        told = []
        place = number
        for thing in range(self.things - 1, -1, -1):
            # As many sets as there are of the things below this one stand
            # ahead of the first set with it.
            if place >= 1 << thing:
                told.append(thing)
                place = (2 << thing) - 1 - place
        return tuple(reversed(told))

    def step(self, one, by):
        """Tell the set that comes so many steps on, round the end."""
        return self.at((self.number(one) + by) % self.many())

    def change(self, some):
        """Tell the thing that is put in or taken out to the next set."""
        following = self.step(some, 1)
        if self.things == 0:
            raise NoChange("there is but the empty set")
        return sorted(set(some) ^ set(following))[0]
