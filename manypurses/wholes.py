"""What counts as a whole number, for every file of the package."""


def is_whole(thing):
    # Python holds True and False to be whole numbers; here they are none.
    return isinstance(thing, int) and not isinstance(thing, bool)


def is_between(thing, low, high):
    return is_whole(thing) and low <= thing <= high
