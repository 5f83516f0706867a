"""Papers alone: which orders can be settled, in which row, and what the others want."""

from manypurses.books import Book
from manypurses.errors import BadHouses, BadOrder
from manypurses.orders import are_orders, place_of
from manypurses.sums import are_first_sums


def by_place(orders):
    return {place_of(order): order for order in orders}


def check_orders(orders, *, sums):
    if not are_first_sums(sums):
        raise BadHouses("no such first sums")
    if not are_orders(orders, purses=len(sums)):
        raise BadOrder("no list of orders of these purses")
    if len(by_place(orders)) < len(orders):
        raise BadOrder("two orders of one place")


def due_orders(places, book):
    """The orders that can be settled next; a purse's can only be the one of its next number."""
    orders = [places.get((purse, number)) for purse, number in enumerate(book.next_numbers)]
    return [order for order in orders if order is not None and book.is_due(order)]


def book_of(orders, *, sums):
    """A book in which as many were settled as can be, always the least of those that could be next."""
    check_orders(orders, sums=sums)
    places = by_place(orders)
    book = Book(sums)
    due = due_orders(places, book)
    while due:
        book.settle(min(due))
        due = due_orders(places, book)
    return book


def left_in(book, orders):
    return sorted([order for order in orders if not book.is_past(order)])


def row_for(orders, *, sums):
    """As many of the orders as can be settled, in the row in which the least possible comes next."""
    return book_of(orders, sums=sums).done


def left_over(orders, *, sums):
    """The orders that can be settled in no row, rising."""
    return left_in(book_of(orders, sums=sums), orders)


def is_row(orders, *, sums):
    """Whether the orders can be settled just in this row."""
    check_orders(orders, sums=sums)
    book = Book(sums)
    for order in orders:
        if not book.is_due(order):
            return False
        book.settle(order)
    return True


def lack_of(purse, places, book):
    """How much the purse lacks for its order of the number that it waits for; None without such an order."""
    order = places.get((purse, book.next_numbers[purse]))
    if order is None:
        return None
    return order[3] - book.held[purse]


def wanting(orders, *, sums):
    """By purses with orders left over: the number waited for, and what is lacking for its order, or None."""
    book = book_of(orders, sums=sums)
    places = by_place(left_in(book, orders))
    return {purse: (book.next_numbers[purse], lack_of(purse, places, book)) for purse, number in places}
