"""All refusals of the program."""


class PurseError(ValueError):
    """Every refusal stands under this one."""


class BadNumber(PurseError):
    """No such number, or no such sum."""


class BadOrder(PurseError):
    """No order of the purses there are."""


class BadHouses(PurseError):
    """Houses, owners or first sums that can't be."""


class NoHouse(PurseError):
    """No such house; the field house holds what was handed in."""

    def __init__(self, house):
        self.house = house


class NoPurse(PurseError):
    """No such purse; the field purse holds what was handed in."""

    def __init__(self, purse):
        self.purse = purse


class NoLetter(PurseError):
    """No letter on its way at that place."""


class NotNow(PurseError):
    """It may not be done as things stand."""


class TooMuch(PurseError):
    """More than the purse has."""


class BadPaper(PurseError):
    """No paper, or no world."""


class BadCut(PurseError):
    """No cut, or no good one."""


class BadText(PurseError):
    """A text that is not written as orders and papers are."""
