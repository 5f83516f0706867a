"""What counts as a list of first sums."""

from manypurses.orders import MOST_PURSES
from manypurses.wholes import is_between

LEAST_PURSES = 2
MOST_FIRST_SUM = 1000


def are_sums(thing):
    """Whether a thing of any kind is a list of first sums, of however many purses."""
    if not isinstance(thing, list) or len(thing) < LEAST_PURSES:
        return False
    return all([is_between(each, 0, MOST_FIRST_SUM) for each in thing])


def are_first_sums(thing):
    """Whether a thing of any kind is a list of first sums of as many purses as there can be."""
    return are_sums(thing) and len(thing) <= MOST_PURSES
