"""[1]: what holds in every world, whatever liars and cheats do and in whatever order letters come."""

import unittest

from manypurses.boards import checked
from manypurses.cuts import cut_of
from manypurses.orders import clash, summed
from manypurses.shows import false_houses, false_owners, lost_nothing, stuck_purses

from things import SHAPES, Play, inner


class TestManyWorlds(unittest.TestCase):
    def check_papers(self, play):
        papers = play.world.papers()
        self.assertEqual(papers, sorted(set(papers)))
        for at, one in enumerate(papers):
            self.assertIs(checked(play.world.paper(one), houses=play.houses, few=play.few, purses=3), True)
            self.assertEqual(list(play.world.paper(one)[1]), play.world.votes_for(one))
            for other in papers[at + 1:]:
                self.assertIs(clash(one, other), False)

    def check_sums(self, play):
        for house in play.world.honest():
            sums = play.world.sums(house)
            self.assertEqual(sum(sums), sum(play.sums))
            self.assertGreaterEqual(min(sums), 0)
        self.assertIs(lost_nothing(play.world), True)

    def check_shows(self, play):
        self.assertEqual(set(false_owners(play.world)) - set(play.cheats), set())
        self.assertEqual(set(false_houses(play.world)) - set(play.liars), set())
        self.assertEqual(set(stuck_purses(play.world)) - set(play.cheats), set())

    def check_houses(self, play):
        """No honest house leaves a vote or a settlement undone that it may give."""
        for house in play.world.honest():
            numbers, sums = cut_of(play.world, house)
            for order in play.world.waits(house):
                self.assertIn(order, play.world.papers())
                self.assertGreaterEqual(order[1], numbers[order[0]])
                self.assertFalse(order[1] == numbers[order[0]] and order[3] <= sums[order[0]])
            for order in play.heard[house]:
                vote = play.world.voted(house, order[0], order[1])
                if order[1] == numbers[order[0]] and order[3] <= sums[order[0]]:
                    self.assertIsNotNone(vote)
                self.assertEqual(house in play.world.votes_for(order), vote == order)

    def check_end(self, play):
        honest = play.world.honest()
        first = cut_of(play.world, honest[0])
        for house in honest:
            self.assertEqual(cut_of(play.world, house), first)
            self.assertEqual(set(play.world.waits(house)), set(play.world.waits(honest[0])))
        for order in play.asked:
            self.assertLess(order[1], first[0][order[0]])
            self.assertIn(order, play.world.papers())

    def check_settled(self, play):
        honest = play.world.honest()
        for house in honest:
            settled = play.world.settled(house)
            self.assertEqual(len(settled), len(set(settled)))
            self.assertEqual(set(settled), set(play.world.settled(honest[0])))
            self.assertEqual(summed(settled, play.sums), play.world.sums(house))
            self.assertEqual(set(play.asked) - set(settled), set())

    def run_through(self, play, steps):
        for turn in range(steps):
            play.step()
            self.check_sums(play)
            self.check_houses(play)
        self.check_papers(play)
        self.check_shows(play)
        play.end()
        self.check_papers(play)
        self.check_sums(play)
        self.check_houses(play)
        self.check_shows(play)
        self.check_end(play)

    def test_worlds_with_liars_and_cheats(self):
        asked = cheated = stuck = 0
        for seed in range(80):
            with self.subTest(seed=seed):
                play = Play(seed)
                self.run_through(play, 60)
                self.check_settled(play)
            asked += len(play.asked)
            cheated += len([order for order in play.world.papers() if order[0] in play.cheats])
            stuck += len(stuck_purses(play.world))
        # The rule draws worlds in which something is done.
        self.assertGreater(asked, 200)
        self.assertGreater(cheated, 20)
        self.assertGreater(stuck, 5)

    def test_worlds_with_cuts(self):
        taken = 0
        for seed in range(80):
            with self.subTest(seed=seed):
                play = Play(seed, with_cuts=True)
                self.run_through(play, 80)
            honest = play.world.honest()
            taken += len(set(len(play.world.settled(house)) for house in honest)) > 1
        self.assertGreater(taken, 10)

    def test_the_same_deeds_tell_the_same(self):
        for seed in range(8):
            one, other = Play(seed, with_cuts=True), Play(seed, with_cuts=True)
            for turn in range(60):
                one.step()
                other.step()
            self.assertEqual(inner(one.world), inner(other.world))


class TestTwoWorlds(unittest.TestCase):
    def test_side_by_side_each_tells_what_it_would_tell_alone(self):
        for seed in range(16):
            alone = [Play(seed, with_cuts=True), Play(seed + len(SHAPES), with_cuts=True)]
            for play in alone:
                for turn in range(50):
                    play.step()
            together = [Play(seed, with_cuts=True), Play(seed + len(SHAPES), with_cuts=True)]
            for turn in range(50):
                for play in together:
                    play.step()
            with self.subTest(seed=seed):
                for one, other in zip(alone, together):
                    self.assertEqual(inner(one.world), inner(other.world))
                    self.assertEqual(inner(one.cutting), inner(other.cutting))
                    self.assertEqual(false_owners(one.world), false_owners(other.world))


if __name__ == "__main__":
    unittest.main()
