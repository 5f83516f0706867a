"""What several tests need: things of other kinds, what a world holds, letters brought, and worlds drawn by a rule."""

from manypurses.cuts import Cutting, cut_of
from manypurses.errors import NotNow, TooMuch
from manypurses.worlds import World


def nested(depth):
    thing = ()
    for turn in range(depth):
        thing = (thing,)
    return thing


def round_list():
    thing = []
    thing.append(thing)
    return thing


ORDERS = (
    (0, 0, 1, 1), (0, 0, 7, 1), (7, 0, 0, 1), (7, 99, 6, 1000), (0, 99, 1, 1000),
    (3, 50, 4, 500), (1, 0, 0, 1000), (6, 99, 7, 1),
)

BEYOND = (
    (-1, 0, 1, 1), (8, 0, 1, 1),
    (0, -1, 1, 1), (0, 100, 1, 1),
    (0, 0, -1, 1), (0, 0, 8, 1),
    (0, 0, 1, 0), (0, 0, 1, -1), (0, 0, 1, 1001),
    (0, 0, 0, 1), (7, 99, 7, 1000),
    (10 ** 40, 0, 1, 1), (0, 10 ** 40, 1, 1), (0, 0, 10 ** 40, 1), (0, 0, 1, 10 ** 40),
)

OTHER_KINDS = (
    None, True, False, 0, 5, -1, "", "0.0: 1 to 1", "abcd", b"", b"\x00\x00\x01\x01", [], {}, set(),
    {0: 0, 1: 0, 2: 1, 3: 1}, {0, 1, 2, 3}, frozenset((0, 1, 2, 3)), object(), tuple, len, range(4),
    [0, 0, 1, 1], [(0, 0, 1, 1)], {(0, 0, 1, 1): True}, ((0, 0, 1, 1),), ((0, 0, 1, 1), (0, 0, 1, 1)),
    (), (0,), (0, 0), (0, 0, 1), (0, 0, 1, 1, 1), (0, 0, 1, 1, None), (0,) * 1000,
    ((0, 0), (1, 1)), ((0, 0, 1, 1), (0,)), nested(1), nested(100000), round_list(),
)

PARTS = (
    None, True, False, "0", "1", "", b"0", b"\x01", [], [0], [1], (), (0,), (1,), {}, {0: 1}, set(), {1},
    object(), int, len, (0, 0, 1, 1), nested(100000), round_list(),
)


def spoilt():
    """An order with each thing of another kind at each of its four places."""
    return [(0, 0, 1, 1)[:at] + (part,) + (0, 0, 1, 1)[at + 1:] for at in range(4) for part in PARTS]


def no_orders():
    return list(BEYOND) + list(OTHER_KINDS) + spoilt()


def no_wholes():
    """Things that are no whole numbers; True and False among them."""
    return [thing for thing in OTHER_KINDS + PARTS if not isinstance(thing, int) or isinstance(thing, bool)]


def no_numbers(low, high):
    """Things that are no whole numbers from low to high, at the edges and of other kinds."""
    return [low - 1, low - 2, high + 1, high + 2, 10 ** 40, -10 ** 40] + no_wholes()


def no_rows(bound):
    """Things that are no list or tuple of numbers from 0 to below the bound, rising, each once."""
    rows = [[-1], [bound], [0, bound], [1, 0], [0, 0], [0, 1, 1], [10 ** 40], [True], [False], [0, True], [False, 1]]
    rows += [[part] for part in no_wholes()] + [[0, part] for part in no_wholes()]
    others = [None, True, False, 0, 1, -1, "", "0", b"", b"\x00", {}, {0: 0}, set(), {0}, frozenset((0,)), range(0),
              range(1), object(), list, len, nested(3), round_list()]
    return rows + [tuple(row) for row in rows] + others


def no_houses(houses):
    """Things that are none of these houses."""
    return [thing for thing in no_numbers(0, 15) + list(range(16)) if type(thing) is not int or thing not in houses]


def inner(thing):
    """All that a thing holds, with its kind, so that two can be compared to the last."""
    if isinstance(thing, (list, tuple)):
        return (type(thing).__name__, [inner(each) for each in thing])
    if isinstance(thing, dict):
        return ("dict", [(inner(key), inner(each)) for key, each in thing.items()])
    if hasattr(thing, "__dict__"):
        return (type(thing).__name__, inner(vars(thing)))
    return thing


def bring(world, word, house, order):
    """Has the first such letter come."""
    return world.come(world.letters().index((word, house, order)))


def bring_all(world, *words):
    """Has all letters come, the oldest first; or all of these words alone."""
    while True:
        places = [at for at, letter in enumerate(world.letters()) if not words or letter[0] in words]
        if not places:
            return
        world.come(places[0])


def ask_through(world, purse, goal, much):
    """An order that is asked, and of which every letter comes."""
    order = world.ask(purse, goal, much)
    bring_all(world)
    return order


class Drawn:
    """Numbers by a written rule, the same in each run."""

    def __init__(self, seed):
        self.state = seed * 7919 + 12345

    def below(self, bound):
        self.state = (self.state * 6364136223846793005 + 1442695040888963407) % 2 ** 64
        return (self.state >> 33) % bound

    def one_of(self, things):
        return things[self.below(len(things))]

    def mixed(self, things):
        """A new list of the things, in a drawn row."""
        rest = list(things)
        return [rest.pop(self.below(len(rest))) for turn in range(len(rest))]


SHAPES = (
    (4, 1, [3], [0]), (4, 1, [0], []), (4, 1, [], [1, 2]), (1, 0, [], [0]), (7, 2, [2, 5], [1]),
    (5, 1, [4], [0, 1, 2]), (10, 3, [0, 1, 9], [2]), (16, 5, [1, 3, 5, 7, 9], [0]),
)
DEEDS = ("ask", "ask", "cheat", "lie", "lie again", "show", "come", "come", "come", "come")
CUT_DEEDS = ("sign", "sign", "come to all but one", "lie of a cut", "take", "take")


class Play:
    """A world in which deeds are drawn, and what was done there, known without asking the world."""

    def __init__(self, seed, with_cuts=False):
        self.drawn = Drawn(seed)
        self.houses, self.few, self.liars, self.cheats = SHAPES[seed % len(SHAPES)]
        self.sums = [self.drawn.below(30) for purse in range(3)]
        self.world = World(self.houses, few=self.few, sums=self.sums, liars=self.liars, cheats=self.cheats)
        self.cutting = Cutting(self.world) if with_cuts else None
        self.asked = []
        self.heard = {house: [] for house in self.world.honest()}
        self.taken = {house: [] for house in self.world.honest()}
        self.owners = [purse for purse in range(3) if purse not in self.cheats]

    def step(self):
        deed = self.drawn.one_of(DEEDS + CUT_DEEDS if self.cutting else DEEDS)
        getattr(self, "do_" + deed.replace(" ", "_"))()

    def any_order(self):
        purse = self.drawn.one_of(self.cheats)
        number = max(cut_of(self.world, house)[0][purse] for house in self.world.honest()) + self.drawn.below(2)
        return (purse, number, (purse + 1 + self.drawn.below(2)) % 3, 1 + self.drawn.below(8))

    def do_ask(self):
        if not self.owners:
            return
        purse = self.drawn.one_of(self.owners)
        goal = (purse + 1 + self.drawn.below(2)) % 3
        try:
            self.asked.append(self.world.ask(purse, goal, 1 + self.drawn.below(9)))
        except (NotNow, TooMuch):
            return

    def do_cheat(self):
        if self.cheats:
            order = self.any_order()
            for turn in range(1 + self.drawn.below(self.houses)):
                self.world.cheat(order, self.drawn.one_of(self.world.honest()))

    def do_lie(self):
        orders = list(self.asked)
        if self.cheats:
            orders.append(self.any_order())
        if self.liars and orders:
            self.world.lie(self.drawn.one_of(self.liars), self.drawn.one_of(orders))

    def do_lie_again(self):
        """A liar votes for what honest houses hear of just now."""
        orders = [order for word, house, order in self.world.letters() if word == "order"]
        if self.liars and orders:
            self.world.lie(self.drawn.one_of(self.liars), self.drawn.one_of(orders))

    def do_show(self):
        if self.world.papers():
            self.world.show(self.drawn.one_of(self.world.papers()), self.drawn.one_of(self.world.honest()))

    def do_come(self):
        letters = self.world.letters()
        if letters:
            at = self.drawn.below(len(letters))
            self.come(at)

    def come(self, at):
        letters = self.world.letters()
        word, house, order = self.world.come(at)
        assert (word, house, order) == letters[at]
        rows = self.heard[house] if word == "order" else self.taken[house]
        if order not in rows:
            rows.append(order)

    def do_come_to_all_but_one(self):
        late = self.drawn.one_of(self.world.honest())
        places = True
        while places:
            places = [at for at, letter in enumerate(self.world.letters()) if letter[1] != late]
            if places:
                self.come(self.drawn.one_of(places))

    def do_sign(self):
        for house in self.world.honest():
            if self.drawn.below(8):
                self.cutting.sign(house)

    def do_lie_of_a_cut(self):
        if self.liars:
            cut = cut_of(self.world, self.drawn.one_of(self.world.honest()))
            self.cutting.lie(self.drawn.one_of(self.liars), cut)
            self.cutting.lie(self.drawn.one_of(self.liars), ((50, 50, 50), (sum(self.sums), 0, 0)))

    def do_take(self):
        if self.cutting.good():
            cut = max(self.cutting.good(), key=lambda good: sum(good[0]))
            for house in self.world.honest():
                try:
                    self.cutting.take(house, cut)
                except NotNow:
                    continue

    def end(self):
        while not self.world.is_still():
            self.do_come()
