"""Orders and papers as texts."""

from manypurses.errors import BadOrder, BadPaper, BadText
from manypurses.houses import MOST_HOUSES
from manypurses.orders import is_order
from manypurses.wholes import is_between

FIGURES = "0123456789"
MOST_FIGURES = 4


def are_signers(thing):
    """Whether a thing of any kind is a tuple of houses, in whatever row."""
    return isinstance(thing, tuple) and all([is_between(each, 0, MOST_HOUSES - 1) for each in thing])


def is_signed_order(thing):
    """Whether a thing of any kind is a pair of an order and a tuple of houses, however few."""
    return isinstance(thing, tuple) and len(thing) == 2 and is_order(thing[0]) and are_signers(thing[1])


def order_text(order):
    if not is_order(order):
        raise BadOrder("no order")
    purse, number, goal, much = order
    return f"{purse}.{number}: {much} to {goal}"


def paper_text(paper):
    if not is_signed_order(paper):
        raise BadPaper("no pair of an order and houses")
    order, signers = paper
    return order_text(order) + " by " + " ".join([str(house) for house in signers])


def check_text(thing):
    if not isinstance(thing, str):
        raise BadText("no text")


def number_read(text):
    """The number that stands there in figures, without needless noughts."""
    # More figures than any number here has are refused unread: Python itself refuses to read very many.
    if not 1 <= len(text) <= MOST_FIGURES or not all([sign in FIGURES for sign in text]):
        raise BadText("no number in figures")
    if text[0] == "0" and text != "0":
        raise BadText("a needless nought")
    return int(text)


def order_read(text):
    """The order that is written so; a part that is not there is empty, and so no number."""
    check_text(text)
    purse, sign, rest = text.partition(".")
    number, sign, rest = rest.partition(": ")
    much, sign, goal = rest.partition(" to ")
    order = (number_read(purse), number_read(number), number_read(goal), number_read(much))
    if not is_order(order):
        raise BadText("no order")
    return order


def signers_read(text):
    """The houses that are written so, a blank between each two; of an empty text none."""
    if text == "":
        return ()
    return tuple([number_read(part) for part in text.split(" ")])


def paper_read(text):
    """The order that is written so and the houses behind it, however few."""
    check_text(text)
    ahead, sign, behind = text.partition(" by ")
    if sign == "":
        raise BadText("no signers told")
    paper = (order_read(ahead), signers_read(behind))
    if not is_signed_order(paper):
        raise BadText("no such houses")
    return paper
