"""How one honest house keeps the purses."""

from manypurses.books import Book
from manypurses.orders import place_of


class Keeper(Book):
    """An honest house's book, and what the house has heard, voted for and laid by."""

    def __init__(self, sums):
        Book.__init__(self, sums)
        self.heard = {}
        self.unvoted = []
        self.choices = {}
        self.waiting = []

    def stands(self):
        """The cut that tells just how the house stands."""
        return (tuple(self.next_numbers), tuple(self.held))

    def left_of(self, purse, orders):
        """What the purse has here without those of its own orders that were not settled here."""
        # By the next number, not by what the house settled itself: a cut that it took has settled too.
        return self.held[purse] - sum([order[3] for order in orders if not self.is_past(order)])

    def hear(self, order):
        """Hears of an order; tells the orders that the house votes for then, in turn."""
        if order in self.heard:
            return []
        self.heard[order] = True
        self.unvoted.append(order)
        return self.give_votes()

    def take_paper(self, order):
        """Takes the paper of an order; tells the orders that the house votes for then, in turn."""
        if self.is_past(order) or order in self.waiting:
            return []
        # None that waited till now can be settled, so if one can it is this one, though it stands last.
        self.waiting.append(order)
        return self.go_on()

    def stand_at(self, cut):
        """Stands as the cut says; tells the orders that the house votes for then, in turn."""
        numbers, sums = cut
        self.next_numbers = list(numbers)
        self.held = list(sums)
        self.waiting = [order for order in self.waiting if not self.is_past(order)]
        return self.go_on()

    def go_on(self):
        """Settles waiting papers till none can be settled; tells the votes that are given then."""
        order = self.first_due()
        while order is not None:
            self.waiting.remove(order)
            self.settle(order)
            order = self.first_due()
        return self.give_votes()

    def first_due(self):
        """The order of the paper that came first of those that can be settled, or None."""
        for order in self.waiting:
            if self.is_due(order):
                return order
        return None

    def give_votes(self):
        """Votes wherever it may, in the order in which it heard; tells the orders voted for."""
        votes = []
        later = []
        for order in self.unvoted:
            if self.is_due(order) and place_of(order) not in self.choices:
                self.choices[place_of(order)] = order
                votes.append(order)
            elif not self.is_past(order) and place_of(order) not in self.choices:
                later.append(order)
        self.unvoted = later
        return votes
