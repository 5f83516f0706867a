"""Wallets: what an owner knows of one purse by papers alone."""

from manypurses.boards import checked
from manypurses.errors import BadHouses, BadNumber, BadPaper, NoPurse, TooMuch
from manypurses.houses import is_few, is_house_count
from manypurses.orders import MOST_MUCH
from manypurses.sums import are_sums
from manypurses.wholes import is_between


def put_new(papers, key, paper):
    """Puts a paper under its key, if none is there; tells whether it was put."""
    if key in papers:
        return False
    papers[key] = paper
    return True


def sum_of(papers):
    """What the sums of the papers come to."""
    return sum([order[3] for order, signers in papers.values()])


class Wallet:
    """The papers of one purse: of its own orders, and of those that bring it something."""

    def __init__(self, purse, *, sums, houses, few):
        if not are_sums(sums):
            raise BadHouses("no such first sums")
        if not is_between(purse, 0, len(sums) - 1):
            raise NoPurse(purse)
        if not is_house_count(houses) or not is_few(few):
            raise BadNumber("no such numbers of houses and few")
        self.purse = purse
        self.purses = len(sums)
        self.houses = houses
        self.few = few
        self.first = sums[purse]
        self.own = {}
        self.brought = {}

    def add(self, paper):
        """Puts a paper into the wallet; tells whether it is new and concerns this purse."""
        if not checked(paper, houses=self.houses, few=self.few, purses=self.purses):
            raise BadPaper("no paper of these houses and purses")
        purse, number, goal, much = paper[0]
        if purse == self.purse:
            return put_new(self.own, number, paper)
        if goal == self.purse:
            return put_new(self.brought, (purse, number), paper)
        return False

    def has(self):
        """The first sum and all that was brought, without all that was spent."""
        return self.first + sum_of(self.brought) - sum_of(self.own)

    def next_number(self):
        """The first number of which there is no own paper."""
        number = 0
        while number in self.own:
            number += 1
        return number

    def order(self, goal, much):
        """The purse's next order; the wallet stays as it is till its paper is put in."""
        if not is_between(goal, 0, self.purses - 1) or goal == self.purse:
            raise NoPurse(goal)
        if not is_between(much, 1, MOST_MUCH):
            raise BadNumber("no such sum")
        if much > self.has():
            raise TooMuch("the wallet has not so much")
        return (self.purse, self.next_number(), goal, much)
