"""How many houses there are, how many of them may lie, and how many are enough."""

from manypurses.wholes import is_between

MOST_HOUSES = 16
MOST_FEW = 5


def is_house_count(thing):
    return is_between(thing, 1, MOST_HOUSES)


def is_few(thing):
    return is_between(thing, 0, MOST_FEW)


def outnumber(houses, *, few):
    """Whether there are more than three times few houses."""
    return houses > 3 * few


def enough_of(houses, *, few):
    return houses - few
