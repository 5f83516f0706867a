"""[9]: false owners, false houses, stuck purses, and whether anything was lost."""

import itertools
import unittest

from manypurses.errors import BadPaper
from manypurses.shows import false_houses, false_owners, lost_nothing, stuck_purses
from manypurses.worlds import World

from things import OTHER_KINDS, PARTS, ask_through, bring, bring_all, inner

SHOWS = (false_owners, false_houses, stuck_purses, lost_nothing)


def split(world, *orders):
    """A cheat writes to each honest house, rising, its own order, or nothing where it is None; all these come."""
    for house, order in zip(world.honest(), orders):
        if order is not None:
            world.cheat(order, house)
            bring(world, "order", house, order)


class TestRefusals(unittest.TestCase):
    def test_no_world(self):
        for at, thing in enumerate(OTHER_KINDS + PARTS + (World,)):
            for show in SHOWS:
                with self.subTest(at=at, show=show.__name__), self.assertRaises(BadPaper):
                    show(thing)

    def test_the_world_is_not_changed(self):
        world = World(4, few=1, sums=[10, 0, 0], liars=[1], cheats=[0])
        split(world, (0, 0, 1, 1), (0, 0, 1, 2), (0, 0, 1, 3))
        world.lie(1, (0, 0, 1, 1))
        world.lie(1, (0, 0, 1, 2))
        before = inner(world)
        for show in SHOWS:
            told = show(world)
            if show is not lost_nothing:
                self.assertIs(type(told), list)
                self.assertEqual(len(told), 1)
                told.clear()
            self.assertEqual(inner(world), before)
        self.assertEqual(false_owners(world), [0])


class TestFalseOwners(unittest.TestCase):
    def setUp(self):
        self.world = World(4, few=1, sums=[10, 10, 10], liars=[3], cheats=[0, 2])

    def test_none_at_first(self):
        self.assertEqual(false_owners(self.world), [])

    def test_clashing_orders_on_their_way(self):
        self.world.cheat((2, 5, 1, 1), 0)
        self.assertEqual(false_owners(self.world), [])
        self.world.cheat((2, 5, 1, 2), 1)
        self.assertEqual(false_owners(self.world), [2])

    def test_clashing_orders_heard_but_not_voted_for(self):
        for order in ((0, 5, 1, 1), (0, 5, 2, 1)):
            self.world.cheat(order, 1)
            self.world.come(0)
        self.assertEqual(self.world.votes_for((0, 5, 1, 1)), [])
        self.assertEqual(false_owners(self.world), [0])

    def test_clashing_orders_voted_for_by_liars_alone(self):
        self.world.lie(3, (0, 5, 1, 1))
        self.assertEqual(false_owners(self.world), [])
        self.world.lie(3, (0, 5, 1, 2))
        self.assertEqual(false_owners(self.world), [0])

    def test_one_on_its_way_and_one_heard(self):
        self.world.cheat((0, 1, 1, 1), 1)
        self.world.come(0)
        self.world.cheat((0, 1, 1, 2), 2)
        self.assertEqual(false_owners(self.world), [0])

    def test_one_on_its_way_and_one_voted_for(self):
        self.world.lie(3, (0, 1, 1, 1))
        self.world.cheat((0, 1, 1, 2), 2)
        self.assertEqual(false_owners(self.world), [0])

    def test_one_heard_and_one_voted_for(self):
        self.world.cheat((0, 1, 1, 2), 2)
        self.world.come(0)
        self.world.lie(3, (0, 1, 1, 1))
        self.assertEqual(false_owners(self.world), [0])

    def test_an_order_that_was_heard_too_late_to_be_voted_for_counts(self):
        order = (0, 0, 1, 1)
        split(self.world, order, order)
        self.world.lie(3, order)
        bring_all(self.world)
        self.world.cheat((0, 0, 1, 2), 1)
        self.world.come(0)
        self.assertEqual(false_owners(self.world), [0])

    def test_like_orders_and_orders_of_other_places_are_none(self):
        for house, order in ((0, (0, 0, 1, 1)), (1, (0, 0, 1, 1)), (1, (0, 1, 1, 2)), (2, (2, 0, 1, 2)),
                             (0, (0, 0, 1, 1))):
            self.world.cheat(order, house)
        self.world.lie(3, (0, 0, 1, 1))
        self.assertEqual(false_owners(self.world), [])
        bring_all(self.world)
        self.assertEqual(false_owners(self.world), [])

    def test_rising_and_each_once(self):
        for purse, number in ((2, 0), (0, 3), (2, 1)):
            for much in (1, 2, 3):
                self.world.cheat((purse, number, 1, much), 0)
        self.assertEqual(false_owners(self.world), [0, 2])

    def test_an_honest_owner_is_never_shown(self):
        for turn in range(4):
            order = self.world.ask(1, 0, 1)
            self.world.lie(3, order)
            self.world.lie(3, order)
            self.assertEqual(false_owners(self.world), [])
            bring_all(self.world)
            for show in (false_owners, false_houses, stuck_purses):
                self.assertEqual(show(self.world), [])


class TestFalseHouses(unittest.TestCase):
    def test_who_voted_for_clashing_orders(self):
        world = World(7, few=2, sums=[10, 0, 0], liars=[2, 5], cheats=[0])
        world.lie(5, (0, 3, 1, 1))
        world.lie(2, (0, 3, 1, 2))
        self.assertEqual(false_houses(world), [])
        world.lie(5, (0, 3, 1, 2))
        self.assertEqual(false_houses(world), [5])
        world.lie(2, (0, 3, 2, 2))
        self.assertEqual(false_houses(world), [2, 5])

    def test_one_order_often_and_orders_of_other_places(self):
        world = World(4, few=1, sums=[10, 0, 0], liars=[2], cheats=[0, 1])
        for order in ((0, 0, 1, 1), (0, 0, 1, 1), (0, 1, 1, 1), (1, 0, 2, 1), (0, 2, 2, 9)):
            world.lie(2, order)
        self.assertEqual(false_houses(world), [])

    def test_an_honest_house_is_never_shown(self):
        world = World(4, few=1, sums=[10, 0, 0], cheats=[0])
        for much in (1, 2, 3):
            for house in range(4):
                world.cheat((0, 0, 1, much), house)
        bring_all(world)
        self.assertEqual(false_houses(world), [])
        self.assertEqual(false_owners(world), [0])


class TestStuckPurses(unittest.TestCase):
    def test_split_votes_of_four_honest_houses(self):
        choices = (None, (0, 0, 1, 1), (0, 0, 1, 2), (0, 0, 2, 1))
        for row in itertools.product(choices, repeat=4):
            world = World(4, few=1, sums=[10, 0, 0], cheats=[0])
            split(world, *row)
            silent = row.count(None)
            can = any(row.count(order) + silent >= 3 for order in choices[1:])
            with self.subTest(row=row):
                self.assertEqual(stuck_purses(world), [] if can else [0])

    def test_liars_may_still_vote_for_any(self):
        choices = (None, (0, 0, 1, 1), (0, 0, 1, 2), (0, 0, 2, 1))
        for row in itertools.product(choices, repeat=3):
            world = World(4, few=1, sums=[10, 0, 0], liars=[1], cheats=[0])
            split(world, *row)
            silent = row.count(None)
            can = any(row.count(order) + silent + 1 >= 3 for order in choices[1:])
            with self.subTest(row=row):
                self.assertEqual(stuck_purses(world), [] if can else [0])
            for order in choices[1:]:
                world.lie(1, order)
            with self.subTest(row=row, lied=True):
                self.assertEqual(stuck_purses(world), [] if can else [0])

    def test_few_that_are_no_liars_count_for_nothing(self):
        world = World(7, few=2, sums=[10, 0, 0], liars=[6], cheats=[0])
        one, other = (0, 0, 1, 1), (0, 0, 1, 2)
        split(world, one, one, one, other, other)
        self.assertEqual(stuck_purses(world), [])
        world.cheat(other, 5)
        bring(world, "order", 5, other)
        self.assertEqual(stuck_purses(world), [0])

    def test_votes_of_liars_alone_make_nothing_stuck(self):
        world = World(7, few=2, sums=[10, 0, 0], liars=[5, 6], cheats=[0])
        for much in range(1, 6):
            world.lie(5, (0, 0, 1, much))
            world.lie(6, (0, 0, 2, much))
        self.assertEqual(stuck_purses(world), [])

    def test_at_a_later_place(self):
        world = World(4, few=1, sums=[10, 0, 0], cheats=[0])
        split(world, *[(0, 0, 1, 1)] * 4)
        bring_all(world)
        self.assertEqual(stuck_purses(world), [])
        split(world, (0, 1, 1, 1), (0, 1, 1, 1), (0, 1, 1, 2))
        self.assertEqual(stuck_purses(world), [])
        world.cheat((0, 1, 1, 2), 3)
        world.come(0)
        self.assertEqual(stuck_purses(world), [0])

    def test_orders_that_were_heard_and_not_voted_for_do_not_count(self):
        world = World(4, few=1, sums=[10, 0, 0], cheats=[0])
        split(world, (0, 5, 1, 1), (0, 5, 1, 2), (0, 5, 1, 3), (0, 5, 1, 4))
        self.assertEqual(stuck_purses(world), [])

    def test_a_place_with_a_paper_is_not_stuck(self):
        world = World(4, few=1, sums=[10, 0, 0], liars=[0], cheats=[0])
        split(world, (0, 0, 1, 1), (0, 0, 1, 1), (0, 0, 1, 2))
        self.assertEqual(stuck_purses(world), [])
        world.lie(0, (0, 0, 1, 1))
        bring_all(world)
        self.assertEqual(world.papers(), [(0, 0, 1, 1)])
        self.assertEqual(stuck_purses(world), [])

    def test_rising_and_only_the_own_purse(self):
        world = World(4, few=1, sums=[10, 10, 10], cheats=[0, 2])
        for purse in (2, 0):
            one, other = (purse, 0, 1, 1), (purse, 0, 1, 2)
            split(world, one, one, other, other)
        self.assertEqual(stuck_purses(world), [0, 2])
        order = ask_through(world, 1, 0, 10)
        self.assertEqual(world.settled(3), [order])
        self.assertEqual(stuck_purses(world), [0, 2])
        self.assertIs(lost_nothing(world), True)


class TestLostNothing(unittest.TestCase):
    def test_behind_many_orders(self):
        world = World(4, few=1, sums=[10, 0, 0])
        self.assertIs(lost_nothing(world), True)
        for purse, goal in ((0, 1), (1, 2), (2, 0)):
            world.ask(purse, goal, 10)
            while not world.is_still():
                world.come(len(world.letters()) // 2)
                self.assertIs(lost_nothing(world), True)

    def test_something_lost_made_or_below_nought_at_any_honest_house(self):
        for house in (0, 2, 3):
            for sums in ([9, 0, 0], [11, 0, 0], [11, -1, 0], [-1, 0, 11], [0, 0, 0], [20, -5, -5]):
                world = World(4, few=1, sums=[10, 0, 0], liars=[1])
                world.keepers[house].held = sums
                with self.subTest(house=house, sums=sums):
                    self.assertIs(lost_nothing(world), False)

    def test_otherwise_spread_is_not_lost(self):
        world = World(4, few=1, sums=[10, 0, 0])
        world.keepers[2].held = [0, 4, 6]
        self.assertIs(lost_nothing(world), True)


if __name__ == "__main__":
    unittest.main()
