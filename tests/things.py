"""What several tests need: things of other kinds, all that a world holds, letters brought, and a rule for drawing."""


def nested(depth):
    thing = ()
    for turn in range(depth):
        thing = (thing,)
    return thing


def round_list():
    thing = []
    thing.append(thing)
    return thing


ORDERS = (
    (0, 0, 1, 1), (0, 0, 7, 1), (7, 0, 0, 1), (7, 99, 6, 1000), (0, 99, 1, 1000),
    (3, 50, 4, 500), (1, 0, 0, 1000), (6, 99, 7, 1),
)

BEYOND = (
    (-1, 0, 1, 1), (8, 0, 1, 1),
    (0, -1, 1, 1), (0, 100, 1, 1),
    (0, 0, -1, 1), (0, 0, 8, 1),
    (0, 0, 1, 0), (0, 0, 1, -1), (0, 0, 1, 1001),
    (0, 0, 0, 1), (7, 99, 7, 1000),
    (10 ** 40, 0, 1, 1), (0, 10 ** 40, 1, 1), (0, 0, 10 ** 40, 1), (0, 0, 1, 10 ** 40),
)

OTHER_KINDS = (
    None, True, False, 0, 5, -1, "", "0.0: 1 to 1", "abcd", b"", b"\x00\x00\x01\x01", [], {}, set(),
    {0: 0, 1: 0, 2: 1, 3: 1}, {0, 1, 2, 3}, frozenset((0, 1, 2, 3)), object(), tuple, len, range(4),
    [0, 0, 1, 1], [(0, 0, 1, 1)], {(0, 0, 1, 1): True}, ((0, 0, 1, 1),), ((0, 0, 1, 1), (0, 0, 1, 1)),
    (), (0,), (0, 0), (0, 0, 1), (0, 0, 1, 1, 1), (0, 0, 1, 1, None), (0,) * 1000,
    ((0, 0), (1, 1)), ((0, 0, 1, 1), (0,)), nested(1), nested(100000), round_list(),
)

PARTS = (
    None, True, False, "0", "1", "", b"0", b"\x01", [], [0], [1], (), (0,), (1,), {}, {0: 1}, set(), {1},
    object(), int, len, (0, 0, 1, 1), nested(100000), round_list(),
)


def spoilt():
    """An order with each thing of another kind at each of its four places."""
    return [(0, 0, 1, 1)[:at] + (part,) + (0, 0, 1, 1)[at + 1:] for at in range(4) for part in PARTS]


def no_orders():
    return list(BEYOND) + list(OTHER_KINDS) + spoilt()


def no_wholes():
    """Things that are no whole numbers; True and False among them."""
    return [thing for thing in OTHER_KINDS + PARTS if not isinstance(thing, int) or isinstance(thing, bool)]


def no_numbers(low, high):
    """Things that are no whole numbers from low to high, at the edges and of other kinds."""
    return [low - 1, low - 2, high + 1, high + 2, 10 ** 40, -10 ** 40] + no_wholes()


def no_houses(houses):
    """Things that are none of these houses."""
    return [thing for thing in no_numbers(0, 15) + list(range(16)) if type(thing) is not int or thing not in houses]


def inner(thing):
    """All that a thing holds, with its kind, so that two can be compared to the last."""
    if isinstance(thing, (list, tuple)):
        return (type(thing).__name__, [inner(each) for each in thing])
    if isinstance(thing, dict):
        return ("dict", [(inner(key), inner(each)) for key, each in thing.items()])
    if hasattr(thing, "__dict__"):
        return (type(thing).__name__, inner(vars(thing)))
    return thing


def bring(world, word, house, order):
    """Has the first such letter come."""
    return world.come(world.letters().index((word, house, order)))


def bring_all(world, *words):
    """Has all letters come, the oldest first; or all of these words alone."""
    while True:
        places = [at for at, letter in enumerate(world.letters()) if not words or letter[0] in words]
        if not places:
            return
        world.come(places[0])


def ask_through(world, purse, goal, much):
    """An order that is asked, and of which every letter comes."""
    order = world.ask(purse, goal, much)
    bring_all(world)
    return order


class Drawn:
    """Numbers by a written rule, the same in each run."""

    def __init__(self, seed):
        self.state = seed * 7919 + 12345

    def below(self, bound):
        self.state = (self.state * 6364136223846793005 + 1442695040888963407) % 2 ** 64
        return (self.state >> 33) % bound

    def one_of(self, things):
        return things[self.below(len(things))]
