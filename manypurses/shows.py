"""Who cheated, who lied, which purses are stuck, and whether anything was lost."""

from manypurses.orders import clashing_places
from manypurses.worlds import check_world


def false_owners(world):
    """The purses of which two clashing orders were written, rising."""
    check_world(world)
    return sorted({purse for purse, number in clashing_places(written_orders(world))})


def false_houses(world):
    """The houses that voted for clashing orders, rising."""
    check_world(world)
    houses = sorted(world.honest() + world.lying)
    return [house for house in houses if clashing_places(world.board.things_of(house))]


def stuck_purses(world):
    """The purses of which at some place no order can come to a paper any more, rising."""
    check_world(world)
    choices = honest_choices(world)
    return sorted({purse for (purse, number), orders in choices.items() if is_stuck(world, orders)})


def lost_nothing(world):
    """Whether at each honest house the sums come to what they came to at first, none below nought."""
    check_world(world)
    rows = [world.sums(house) for house in world.honest()]
    return all([sum(sums) == world.total and min(sums) >= 0 for sums in rows])


def written_orders(world):
    """All orders that are on their way, that an honest house has heard of, or that were voted for."""
    orders = [order for word, house, order in world.letters()]
    for keeper in world.keepers.values():
        orders.extend(list(keeper.heard))
    return orders + list(world.board.signers)


def honest_choices(world):
    """By places the orders that honest houses voted for, each as often as one did."""
    choices = {}
    for keeper in world.keepers.values():
        for place, order in keeper.choices.items():
            choices.setdefault(place, []).append(order)
    return choices


def is_stuck(world, orders):
    """Whether the honest votes at a place are so split that none of its orders can come to enough."""
    most = max([orders.count(order) for order in orders])
    silent = len(world.keepers) - len(orders)
    return most + silent + len(world.lying) < world.board.enough
