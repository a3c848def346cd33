"""What is a whole number, and what is a row of things."""

MOST_THINGS = 200


def is_whole(asked, low, high):
    """Tell whether what is asked is a whole number from low to high."""
    # The exact kind is asked for: True and False are no whole numbers, and
    # of whatever else is handed in no method is called.
    return type(asked) == int and low <= asked <= high


def is_rising(row, things):
    """Tell whether the row is one of things, out of so many, rising, each once."""
    if not isinstance(row, (tuple, list)):
        return False
    least = 0
    for thing in row:
        if not is_whole(thing, least, things - 1):
            return False
        least = thing + 1
    return True
