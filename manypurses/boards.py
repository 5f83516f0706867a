"""Papers, and the board that all see."""

from manypurses.houses import enough_of
from manypurses.orders import MOST_PURSES, is_order
from manypurses.wholes import are_rising


def checked(paper, *, houses, few, purses=MOST_PURSES):
    """Whether a thing of any kind is a paper of these houses and purses."""
    if not isinstance(paper, tuple) or len(paper) != 2:
        return False
    order, signers = paper
    if not is_order(order, purses=purses) or not isinstance(signers, tuple):
        return False
    return are_rising(signers, houses) and len(signers) >= enough_of(houses, few=few)


class Board:
    """Who signed what: houses sign orders or cuts, owners the orders of their joint purse."""

    def __init__(self, enough):
        self.enough = enough
        self.signers = {}

    def put(self, house, thing):
        """Whether it is by this very signature that enough have signed the thing."""
        houses = self.signers.setdefault(thing, [])
        if house in houses:
            return False
        houses.append(house)
        return len(houses) == self.enough

    def houses_for(self, thing):
        return sorted(self.signers.get(thing, []))

    def things_of(self, house):
        """All that the house signed."""
        return [thing for thing, houses in self.signers.items() if house in houses]

    def is_carried(self, thing):
        """Whether enough have signed the thing."""
        return len(self.signers.get(thing, [])) >= self.enough

    def carried(self):
        """All things that enough have signed, rising."""
        return sorted([thing for thing in self.signers if self.is_carried(thing)])
