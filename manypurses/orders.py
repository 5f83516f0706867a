"""Orders, their places, and what they do to sums."""

from manypurses.errors import BadOrder
from manypurses.houses import enough_of
from manypurses.wholes import is_between

MOST_PURSES = 8
LAST_NUMBER = 99
MOST_MUCH = 1000


def is_order(thing, *, purses=MOST_PURSES):
    """Whether a thing of any kind is an order of so many purses."""
    if not isinstance(thing, tuple) or len(thing) != 4:
        return False
    purse, number, goal, much = thing
    if not is_between(purse, 0, purses - 1) or not is_between(goal, 0, purses - 1):
        return False
    return purse != goal and is_between(number, 0, LAST_NUMBER) and is_between(much, 1, MOST_MUCH)


def are_orders(things, *, purses):
    """Whether a thing of any kind is a list of orders of so many purses."""
    return isinstance(things, list) and all([is_order(thing, purses=purses) for thing in things])


def place_of(order):
    """The pair of the order's purse and number."""
    if not is_order(order):
        raise BadOrder("no order")
    return (order[0], order[1])


def clash(one, other):
    """Whether two orders are unlike and have one place."""
    return place_of(one) == place_of(other) and one != other


def clashing_places(orders):
    """The places of which there are unlike orders."""
    firsts = {}
    found = []
    for order in orders:
        if firsts.setdefault(place_of(order), order) != order:
            found.append(place_of(order))
    return found


def in_common(houses, *, few):
    """How many signers two papers share at least, and how many of these are honest at least."""
    shared = 2 * enough_of(houses, few=few) - houses
    return (shared, shared - few)


def summed(orders, sums):
    """The sums after all orders, in whatever row, even below nought."""
    if not are_orders(orders, purses=len(sums)):
        raise BadOrder("no list of orders of these purses")
    told = list(sums)
    for order in orders:
        purse, number, goal, much = order
        told[purse] -= much
        told[goal] += much
    return told
