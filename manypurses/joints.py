"""Joint purses: several owners, so many of whom must sign an order."""

from manypurses.boards import Board
from manypurses.errors import BadHouses, BadOrder, NoPurse, NotNow
from manypurses.orders import MOST_PURSES, clash, clashing_places, is_order
from manypurses.wholes import is_between, is_rising_row

MOST_OWNERS = 6


def check_owners(owners, *, need, cheats):
    if not is_between(owners, 1, MOST_OWNERS):
        raise BadHouses("no such owners")
    if not is_between(need, 1, owners):
        raise BadHouses("no such number of owners that must sign")
    if not is_rising_row(cheats, owners):
        raise BadHouses("no such cheats")


def check_order(order):
    if not is_order(order):
        raise BadOrder("no order")


class Joint:
    """A joint purse, and who signed which of its orders."""

    def __init__(self, purse, *, owners, need, cheats=()):
        if not is_between(purse, 0, MOST_PURSES - 1):
            raise NoPurse(purse)
        check_owners(owners, need=need, cheats=cheats)
        self.purse = purse
        self.owners = owners
        self.cheating = list(cheats)
        self.board = Board(need)

    def sign(self, owner, order):
        """An owner signs an order; tells whether enough have signed it."""
        check_order(order)
        if order[0] != self.purse:
            raise NoPurse(order[0])
        if not is_between(owner, 0, self.owners - 1):
            raise BadHouses("no such owner")
        if owner not in self.cheating and self.has_other(owner, order):
            raise NotNow("this owner has signed another order of that number")
        self.board.put(owner, order)
        return self.board.is_carried(order)

    def has_other(self, owner, order):
        """Whether the owner has signed another order of that number."""
        return any([clash(order, other) for other in self.board.things_of(owner)])

    def signed(self, order):
        """All owners that signed the order, rising."""
        check_order(order)
        return self.board.houses_for(order)

    def ready(self):
        """All orders that enough have signed, rising."""
        return self.board.carried()

    def is_sure(self):
        """Whether no two unlike orders of one number can ever be ready."""
        honest_needed = self.board.enough - len(self.cheating)
        return honest_needed > 0 and 2 * honest_needed > self.owners - len(self.cheating)

    def two_faced(self):
        """All owners that signed clashing orders, rising."""
        return [owner for owner in range(self.owners) if clashing_places(self.board.things_of(owner))]
