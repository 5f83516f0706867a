"""[1]: what holds in every world, whatever liars and cheats do and in whatever order letters come."""

import unittest

from manypurses.boards import checked
from manypurses.cuts import Cutting, cut_of
from manypurses.errors import NotNow, TooMuch
from manypurses.orders import clash, summed
from manypurses.shows import false_houses, false_owners, lost_nothing, stuck_purses
from manypurses.worlds import World

from things import Drawn, inner

SHAPES = (
    (4, 1, [3], [0]), (4, 1, [0], []), (4, 1, [], [1, 2]), (1, 0, [], [0]), (7, 2, [2, 5], [1]),
    (5, 1, [4], [0, 1, 2]), (10, 3, [0, 1, 9], [2]), (16, 5, [1, 3, 5, 7, 9], [0]),
)
DEEDS = ("ask", "ask", "cheat", "lie", "lie again", "show", "come", "come", "come", "come")
CUT_DEEDS = ("sign", "sign", "come to all but one", "lie of a cut", "take", "take")


class Play:
    """A world in which deeds are drawn, and what was done there, known without asking the world."""

    def __init__(self, seed, with_cuts=False):
        self.drawn = Drawn(seed)
        self.houses, self.few, self.liars, self.cheats = SHAPES[seed % len(SHAPES)]
        self.sums = [self.drawn.below(30) for purse in range(3)]
        self.world = World(self.houses, few=self.few, sums=self.sums, liars=self.liars, cheats=self.cheats)
        self.cutting = Cutting(self.world) if with_cuts else None
        self.asked = []
        self.heard = {house: [] for house in self.world.honest()}
        self.owners = [purse for purse in range(3) if purse not in self.cheats]

    def step(self):
        deed = self.drawn.one_of(DEEDS + CUT_DEEDS if self.cutting else DEEDS)
        getattr(self, "do_" + deed.replace(" ", "_"))()

    def any_order(self):
        purse = self.drawn.one_of(self.cheats)
        number = max(cut_of(self.world, house)[0][purse] for house in self.world.honest()) + self.drawn.below(2)
        return (purse, number, (purse + 1 + self.drawn.below(2)) % 3, 1 + self.drawn.below(8))

    def do_ask(self):
        if not self.owners:
            return
        purse = self.drawn.one_of(self.owners)
        goal = (purse + 1 + self.drawn.below(2)) % 3
        try:
            self.asked.append(self.world.ask(purse, goal, 1 + self.drawn.below(9)))
        except (NotNow, TooMuch):
            return

    def do_cheat(self):
        if self.cheats:
            order = self.any_order()
            for turn in range(1 + self.drawn.below(self.houses)):
                self.world.cheat(order, self.drawn.one_of(self.world.honest()))

    def do_lie(self):
        orders = list(self.asked)
        if self.cheats:
            orders.append(self.any_order())
        if self.liars and orders:
            self.world.lie(self.drawn.one_of(self.liars), self.drawn.one_of(orders))

    def do_lie_again(self):
        """A liar votes for what honest houses hear of just now."""
        orders = [order for word, house, order in self.world.letters() if word == "order"]
        if self.liars and orders:
            self.world.lie(self.drawn.one_of(self.liars), self.drawn.one_of(orders))

    def do_show(self):
        if self.world.papers():
            self.world.show(self.drawn.one_of(self.world.papers()), self.drawn.one_of(self.world.honest()))

    def do_come(self):
        letters = self.world.letters()
        if letters:
            at = self.drawn.below(len(letters))
            self.come(at)

    def come(self, at):
        letters = self.world.letters()
        word, house, order = self.world.come(at)
        assert (word, house, order) == letters[at]
        if word == "order" and order not in self.heard[house]:
            self.heard[house].append(order)

    def do_come_to_all_but_one(self):
        late = self.drawn.one_of(self.world.honest())
        places = True
        while places:
            places = [at for at, letter in enumerate(self.world.letters()) if letter[1] != late]
            if places:
                self.come(self.drawn.one_of(places))

    def do_sign(self):
        for house in self.world.honest():
            if self.drawn.below(8):
                self.cutting.sign(house)

    def do_lie_of_a_cut(self):
        if self.liars:
            cut = cut_of(self.world, self.drawn.one_of(self.world.honest()))
            self.cutting.lie(self.drawn.one_of(self.liars), cut)
            self.cutting.lie(self.drawn.one_of(self.liars), ((50, 50, 50), (sum(self.sums), 0, 0)))

    def do_take(self):
        if self.cutting.good():
            cut = max(self.cutting.good(), key=lambda good: sum(good[0]))
            for house in self.world.honest():
                try:
                    self.cutting.take(house, cut)
                except NotNow:
                    continue

    def end(self):
        while not self.world.is_still():
            self.do_come()


class TestManyWorlds(unittest.TestCase):
    def check_papers(self, play):
        papers = play.world.papers()
        self.assertEqual(papers, sorted(set(papers)))
        for at, one in enumerate(papers):
            self.assertIs(checked(play.world.paper(one), houses=play.houses, few=play.few, purses=3), True)
            self.assertEqual(list(play.world.paper(one)[1]), play.world.votes_for(one))
            for other in papers[at + 1:]:
                self.assertIs(clash(one, other), False)

    def check_sums(self, play):
        for house in play.world.honest():
            sums = play.world.sums(house)
            self.assertEqual(sum(sums), sum(play.sums))
            self.assertGreaterEqual(min(sums), 0)
        self.assertIs(lost_nothing(play.world), True)

    def check_shows(self, play):
        self.assertEqual(set(false_owners(play.world)) - set(play.cheats), set())
        self.assertEqual(set(false_houses(play.world)) - set(play.liars), set())
        self.assertEqual(set(stuck_purses(play.world)) - set(play.cheats), set())

    def check_houses(self, play):
        """No honest house leaves a vote or a settlement undone that it may give."""
        for house in play.world.honest():
            numbers, sums = cut_of(play.world, house)
            for order in play.world.waits(house):
                self.assertIn(order, play.world.papers())
                self.assertGreaterEqual(order[1], numbers[order[0]])
                self.assertFalse(order[1] == numbers[order[0]] and order[3] <= sums[order[0]])
            for order in play.heard[house]:
                vote = play.world.voted(house, order[0], order[1])
                if order[1] == numbers[order[0]] and order[3] <= sums[order[0]]:
                    self.assertIsNotNone(vote)
                self.assertEqual(house in play.world.votes_for(order), vote == order)

    def check_end(self, play):
        honest = play.world.honest()
        first = cut_of(play.world, honest[0])
        for house in honest:
            self.assertEqual(cut_of(play.world, house), first)
            self.assertEqual(set(play.world.waits(house)), set(play.world.waits(honest[0])))
        for order in play.asked:
            self.assertLess(order[1], first[0][order[0]])
            self.assertIn(order, play.world.papers())

    def check_settled(self, play):
        honest = play.world.honest()
        for house in honest:
            settled = play.world.settled(house)
            self.assertEqual(len(settled), len(set(settled)))
            self.assertEqual(set(settled), set(play.world.settled(honest[0])))
            self.assertEqual(summed(settled, play.sums), play.world.sums(house))
            self.assertEqual(set(play.asked) - set(settled), set())

    def run_through(self, play, steps):
        for turn in range(steps):
            play.step()
            self.check_sums(play)
            self.check_houses(play)
        self.check_papers(play)
        self.check_shows(play)
        play.end()
        self.check_papers(play)
        self.check_sums(play)
        self.check_houses(play)
        self.check_shows(play)
        self.check_end(play)

    def test_worlds_with_liars_and_cheats(self):
        asked = cheated = stuck = 0
        for seed in range(80):
            with self.subTest(seed=seed):
                play = Play(seed)
                self.run_through(play, 60)
                self.check_settled(play)
            asked += len(play.asked)
            cheated += len([order for order in play.world.papers() if order[0] in play.cheats])
            stuck += len(stuck_purses(play.world))
        # The rule draws worlds in which something is done.
        self.assertGreater(asked, 200)
        self.assertGreater(cheated, 20)
        self.assertGreater(stuck, 5)

    def test_worlds_with_cuts(self):
        taken = 0
        for seed in range(80):
            with self.subTest(seed=seed):
                play = Play(seed, with_cuts=True)
                self.run_through(play, 80)
            honest = play.world.honest()
            taken += len(set(len(play.world.settled(house)) for house in honest)) > 1
        self.assertGreater(taken, 10)

    def test_the_same_deeds_tell_the_same(self):
        for seed in range(8):
            one, other = Play(seed, with_cuts=True), Play(seed, with_cuts=True)
            for turn in range(60):
                one.step()
                other.step()
            self.assertEqual(inner(one.world), inner(other.world))


class TestTwoWorlds(unittest.TestCase):
    def test_side_by_side_each_tells_what_it_would_tell_alone(self):
        for seed in range(16):
            alone = [Play(seed, with_cuts=True), Play(seed + len(SHAPES), with_cuts=True)]
            for play in alone:
                for turn in range(50):
                    play.step()
            together = [Play(seed, with_cuts=True), Play(seed + len(SHAPES), with_cuts=True)]
            for turn in range(50):
                for play in together:
                    play.step()
            with self.subTest(seed=seed):
                for one, other in zip(alone, together):
                    self.assertEqual(inner(one.world), inner(other.world))
                    self.assertEqual(inner(one.cutting), inner(other.cutting))
                    self.assertEqual(false_owners(one.world), false_owners(other.world))


if __name__ == "__main__":
    unittest.main()
