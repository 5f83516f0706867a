"""The sums and next numbers of purses, and how orders are settled in them."""


class Book:
    """Of each purse its sum and its next number, and all orders that were settled here, in turn."""

    def __init__(self, sums):
        self.held = list(sums)
        self.next_numbers = [0] * len(sums)
        self.done = []

    def is_past(self, order):
        return order[1] < self.next_numbers[order[0]]

    def is_due(self, order):
        """Whether the order has its purse's next number and no more than the purse has."""
        purse, number, goal, much = order
        return number == self.next_numbers[purse] and much <= self.held[purse]

    def settle(self, order):
        purse, number, goal, much = order
        self.held[purse] -= much
        self.held[goal] += much
        self.next_numbers[purse] += 1
        self.done.append(order)
