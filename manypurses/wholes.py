"""What counts as a whole number, for every file of the package."""


def is_whole(thing):
    # Python holds True and False to be whole numbers; here they are none.
    return isinstance(thing, int) and not isinstance(thing, bool)


def is_between(thing, low, high):
    return is_whole(thing) and low <= thing <= high


def are_rising(things, bound):
    """Whether a row holds nothing but whole numbers from 0 to below the bound, rising, each once."""
    least = 0
    for thing in things:
        if not is_between(thing, least, bound - 1):
            return False
        least = thing + 1
    return True


def is_rising_row(thing, bound):
    """Whether a thing of any kind is a list or tuple of numbers from 0 to below the bound, rising, each once."""
    return isinstance(thing, (list, tuple)) and are_rising(thing, bound)
