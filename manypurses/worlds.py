"""A world: houses, owners, and the letters between them."""

from manypurses.boards import Board
from manypurses.errors import BadHouses, BadNumber, BadOrder, BadPaper, NoHouse, NoLetter, NoPurse, NotNow, TooMuch
from manypurses.houses import enough_of, is_few, is_house_count, outnumber
from manypurses.keepers import Keeper
from manypurses.orders import LAST_NUMBER, MOST_MUCH, is_order
from manypurses.sums import are_first_sums
from manypurses.wholes import is_between, is_rising_row, is_whole

ORDER_LETTER = "order"
PAPER_LETTER = "paper"


def check_houses(houses, *, few, liars):
    if not is_house_count(houses) or not is_few(few):
        raise BadNumber("no such numbers of houses and few")
    if not outnumber(houses, few=few):
        raise BadHouses("no more houses than three times few")
    if not is_rising_row(liars, houses) or len(liars) > few:
        raise BadHouses("no such liars")


def check_purses(sums, *, cheats):
    if not are_first_sums(sums):
        raise BadHouses("no such first sums")
    if not is_rising_row(cheats, len(sums)):
        raise BadHouses("no such cheats")


def check_world(thing):
    if not isinstance(thing, World):
        raise BadPaper("no world")


class World:
    """Houses that keep purses, few of them liars, and owners, some of them cheats."""

    def __init__(self, houses, *, few, sums, liars=(), cheats=()):
        check_houses(houses, few=few, liars=liars)
        check_purses(sums, cheats=cheats)
        self.purses = len(sums)
        self.total = sum(sums)
        self.lying = list(liars)
        self.cheating = list(cheats)
        self.keepers = {house: Keeper(sums) for house in range(houses) if house not in liars}
        self.board = Board(enough_of(houses, few=few))
        self.asked = [[] for each in sums]
        self.on_way = []

    def honest(self):
        """All honest houses, rising."""
        return list(self.keepers)

    def next_number(self, purse):
        """The number of the owner's next order, by what it has asked."""
        self.check_purse(purse)
        return len(self.asked[purse])

    def ask(self, purse, goal, much):
        """An honest owner's next order is written to all honest houses; it is told."""
        self.check_asker(purse, goal)
        if not is_between(much, 1, MOST_MUCH):
            raise BadNumber("no such sum")
        asked = self.asked[purse]
        if len(asked) > LAST_NUMBER or asked and not self.board.is_carried(asked[-1]):
            raise NotNow("the one ahead has no paper, or was the last")
        if much > max([keeper.left_of(purse, asked) for keeper in self.keepers.values()]):
            raise TooMuch("no honest house knows of so much")
        order = (purse, len(asked), goal, much)
        asked.append(order)
        self.write_to_all(ORDER_LETTER, order)
        return order

    def cheat(self, order, house):
        """A cheat writes any order of its purse to one honest house."""
        self.check_order(order)
        if order[0] not in self.cheating:
            raise NoPurse(order[0])
        self.keeper_of(house)
        self.on_way.append((ORDER_LETTER, house, order))

    def lie(self, liar, order):
        """A lying house votes for any order, but of an honest owner only for one that was asked."""
        self.check_liar(liar)
        self.check_order(order)
        if order[0] not in self.cheating and order not in self.asked[order[0]]:
            raise NoPurse(order[0])
        self.put_votes(liar, [order])

    def show(self, order, house):
        """The paper of an order is sent to one honest house once more."""
        self.keeper_of(house)
        if not is_order(order, purses=self.purses) or not self.board.is_carried(order):
            raise BadPaper("no paper")
        self.on_way.append((PAPER_LETTER, house, order))

    def letters(self):
        """All letters on their way, the oldest first."""
        return list(self.on_way)

    def come(self, at):
        """The letter at that place comes; it is told."""
        if not is_between(at, 0, len(self.on_way) - 1):
            raise NoLetter("no letter at that place")
        letter = self.on_way.pop(at)
        word, house, order = letter
        keeper = self.keepers[house]
        if word == ORDER_LETTER:
            self.put_votes(house, keeper.hear(order))
        else:
            self.put_votes(house, keeper.take_paper(order))
        return letter

    def sums(self, house):
        """The sums of all purses, as an honest house knows them."""
        return list(self.keeper_of(house).held)

    def settled(self, house):
        """The orders that an honest house settled itself, in turn."""
        return list(self.keeper_of(house).done)

    def waits(self, house):
        """The orders of the papers that wait at an honest house, rising."""
        return sorted(self.keeper_of(house).waiting)

    def voted(self, house, purse, number):
        """The order of that place for which an honest house voted, or None."""
        keeper = self.keeper_of(house)
        self.check_purse(purse)
        if not is_whole(number):
            return None
        return keeper.choices.get((purse, number))

    def papers(self):
        """All orders that have papers, rising."""
        return self.board.carried()

    def votes_for(self, order):
        """All houses that voted for the order, rising."""
        self.check_order(order)
        return self.board.houses_for(order)

    def paper(self, order):
        """The paper of an order, with all that signed it till now."""
        self.check_order(order)
        if not self.board.is_carried(order):
            raise BadPaper("no paper")
        return (order, tuple(self.board.houses_for(order)))

    def is_still(self):
        """Whether no letter is on its way."""
        return not self.on_way

    def take_cut(self, house, cut):
        """An honest house stands as a cut says, and goes on from there."""
        self.put_votes(house, self.keeper_of(house).stand_at(cut))

    def put_votes(self, house, orders):
        """The house's votes stand on the board, in turn; papers that come about are written to all honest houses."""
        for order in orders:
            if self.board.put(house, order):
                self.write_to_all(PAPER_LETTER, order)

    def write_to_all(self, word, order):
        for house in self.keepers:
            self.on_way.append((word, house, order))

    def keeper_of(self, house):
        """What an honest house keeps; any other thing is refused."""
        if not is_whole(house) or house not in self.keepers:
            raise NoHouse(house)
        return self.keepers[house]

    def check_liar(self, liar):
        if not is_whole(liar) or liar not in self.lying:
            raise NoHouse(liar)

    def check_purse(self, purse):
        if not is_between(purse, 0, self.purses - 1):
            raise NoPurse(purse)

    def check_asker(self, purse, goal):
        self.check_purse(purse)
        self.check_purse(goal)
        if purse in self.cheating or goal == purse:
            raise NoPurse(purse)

    def check_order(self, order):
        if not is_order(order, purses=self.purses):
            raise BadOrder("no order of these purses")
