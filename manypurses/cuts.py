"""Cuts: how houses stand, so that late ones can go on from there."""

from manypurses.boards import Board
from manypurses.errors import BadCut, NotNow
from manypurses.wholes import is_between
from manypurses.worlds import check_world

MOST_IN_CUT = 100000


def cut_of(world, house):
    """The cut that tells just how an honest house stands."""
    check_world(world)
    return world.keeper_of(house).stands()


def is_number_row(thing, many):
    """Whether a thing of any kind is a tuple of so many numbers as cuts hold."""
    if not isinstance(thing, tuple) or len(thing) != many:
        return False
    return all([is_between(each, 0, MOST_IN_CUT) for each in thing])


def is_cut(thing, *, purses, total):
    """Whether a thing of any kind is a cut of so many purses, with sums that come to the total."""
    if not isinstance(thing, tuple) or len(thing) != 2:
        return False
    numbers, sums = thing
    return is_number_row(numbers, purses) and is_number_row(sums, purses) and sum(sums) == total


def is_behind(cut, other):
    """Whether no next number of the first cut is greater than the other's."""
    return all([mine <= theirs for mine, theirs in zip(cut[0], other[0])])


class Cutting:
    """The cuts of a world, and who signed them."""

    def __init__(self, world):
        check_world(world)
        # The world itself, no copy: houses that take a cut here stand so in it.
        self.world = world
        self.board = Board(world.board.enough)

    def sign(self, house):
        """An honest house signs just how it stands; that cut is told."""
        cut = cut_of(self.world, house)
        self.board.put(house, cut)
        return cut

    def lie(self, liar, cut):
        """A lying house signs any cut."""
        self.world.check_liar(liar)
        self.check_cut(cut)
        self.board.put(liar, cut)

    def signers_of(self, cut):
        """All houses that signed the cut, rising."""
        self.check_cut(cut)
        return self.board.houses_for(cut)

    def good(self):
        """All cuts that enough have signed, rising."""
        return self.board.carried()

    def take(self, house, cut):
        """An honest house that is behind a good cut stands so then, and goes on."""
        here = cut_of(self.world, house)
        self.check_cut(cut)
        if not self.board.is_carried(cut):
            raise BadCut("too few have signed")
        if not is_behind(here, cut):
            raise NotNow("one of the house's own next numbers is greater")
        self.world.take_cut(house, cut)

    def check_cut(self, cut):
        if not is_cut(cut, purses=self.world.purses, total=self.world.total):
            raise BadCut("no cut of this world")
