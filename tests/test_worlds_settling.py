"""[4] and [5]: how an honest house votes and settles, which papers wait, and what is looked at again in which turn."""

import itertools
import unittest

from manypurses.worlds import World

from things import ask_through, bring, bring_all, inner


def written_to(world, house, *orders):
    """Cheats write these orders to a house, and they come, in turn."""
    for order in orders:
        world.cheat(order, house)
        bring(world, "order", house, order)


def ahead(world, house, *wishes):
    """Orders asked and settled everywhere but at one house, where none of the papers has come."""
    orders = []
    for purse, goal, much in wishes:
        orders.append(world.ask(purse, goal, much))
        while any(letter[1] != house for letter in world.letters()):
            world.come([letter[1] != house for letter in world.letters()].index(True))
    return orders


class TestVoting(unittest.TestCase):
    def test_a_vote_for_the_next_number_and_no_more_than_the_purse_has(self):
        for much, told in ((1, True), (9, True), (10, True), (11, False), (1000, False)):
            world = World(4, few=1, sums=[10, 0, 0], cheats=[0])
            order = (0, 0, 1, much)
            written_to(world, 2, order)
            with self.subTest(much=much):
                self.assertEqual(world.voted(2, 0, 0), order if told else None)
                self.assertEqual(world.votes_for(order), [2] if told else [])

    def test_no_vote_for_a_number_beyond_the_next_one(self):
        world = World(4, few=1, sums=[10, 0, 0], cheats=[0])
        written_to(world, 2, (0, 1, 1, 1), (0, 2, 1, 1), (0, 99, 1, 1))
        for number in (0, 1, 2, 99):
            self.assertIsNone(world.voted(2, 0, number))

    def test_no_vote_for_a_number_below_the_next_one(self):
        world = World(4, few=1, sums=[10, 0, 0], cheats=[0])
        order = (0, 0, 1, 1)
        for house in (0, 1, 2):
            written_to(world, house, order)
        bring(world, "paper", 3, order)
        written_to(world, 3, order, (0, 0, 1, 2))
        self.assertIsNone(world.voted(3, 0, 0))
        self.assertEqual(world.votes_for(order), [0, 1, 2])
        self.assertEqual(world.votes_for((0, 0, 1, 2)), [])

    def test_one_vote_at_a_place(self):
        world = World(4, few=1, sums=[10, 0, 0], cheats=[0])
        written_to(world, 2, (0, 0, 1, 5), (0, 0, 1, 4), (0, 0, 2, 5), (0, 0, 1, 5))
        self.assertEqual(world.voted(2, 0, 0), (0, 0, 1, 5))
        self.assertEqual(world.votes_for((0, 0, 1, 5)), [2])
        self.assertEqual(world.votes_for((0, 0, 1, 4)), [])
        self.assertEqual(world.votes_for((0, 0, 2, 5)), [])

    def test_a_vote_takes_nothing_from_the_purse(self):
        world = World(4, few=1, sums=[10, 0, 0])
        world.ask(0, 1, 10)
        bring_all(world, "order")
        self.assertEqual(world.sums(0), [10, 0, 0])

    def test_places_stand_apart(self):
        world = World(4, few=1, sums=[10, 10, 0], cheats=[0, 1])
        written_to(world, 2, (0, 0, 1, 10), (1, 0, 0, 10))
        self.assertEqual(world.voted(2, 0, 0), (0, 0, 1, 10))
        self.assertEqual(world.voted(2, 1, 0), (1, 0, 0, 10))

    def test_an_order_too_big_leaves_its_place_to_another(self):
        world = World(4, few=1, sums=[10, 0, 0], cheats=[0])
        written_to(world, 2, (0, 0, 1, 11), (0, 0, 1, 10))
        self.assertEqual(world.voted(2, 0, 0), (0, 0, 1, 10))

    def test_a_paper_that_comes_is_no_hearing(self):
        world = World(4, few=1, sums=[10, 0, 0], liars=[0], cheats=[0])
        order = (0, 0, 1, 5)
        for house in (1, 2):
            written_to(world, house, order)
        world.lie(0, order)
        bring_all(world)
        self.assertIsNone(world.voted(3, 0, 0))
        self.assertEqual(world.votes_for(order), [0, 1, 2])


class TestVotingLater(unittest.TestCase):
    def test_numbers_that_come_out_of_turn(self):
        for row in itertools.permutations(range(4)):
            world = World(1, few=0, sums=[10, 0], cheats=[0])
            written_to(world, 0, *[(0, number, 1, 1 + number) for number in row])
            bring_all(world)
            with self.subTest(row=row):
                self.assertEqual(world.settled(0), [(0, number, 1, 1 + number) for number in range(4)])
                self.assertEqual(world.sums(0), [0, 10])

    def test_sums_that_become_enough_only_by_a_later_paper(self):
        world = World(1, few=0, sums=[10, 0, 0], cheats=[1])
        late = (1, 0, 2, 5)
        written_to(world, 0, late)
        self.assertIsNone(world.voted(0, 1, 0))
        ask_through(world, 0, 1, 4)
        self.assertIsNone(world.voted(0, 1, 0))
        order = world.ask(0, 1, 1)
        world.come(0)
        self.assertIsNone(world.voted(0, 1, 0))
        self.assertEqual(world.come(0), ("paper", 0, order))
        self.assertEqual(world.voted(0, 1, 0), late)
        bring_all(world)
        self.assertEqual(world.sums(0), [5, 0, 5])

    def test_in_the_order_in_which_it_heard(self):
        late = [(1, 0, 2, 5), (0, 1, 2, 1), (1, 0, 2, 4)]
        for row in itertools.permutations(late):
            world = World(1, few=0, sums=[10, 0, 0], cheats=[0, 1])
            written_to(world, 0, *row)
            written_to(world, 0, (0, 0, 1, 5))
            self.assertEqual(world.letters(), [("paper", 0, (0, 0, 1, 5))])
            world.come(0)
            first = [order for order in row if order[0] == 1][0]
            votes = [order for order in row if order in (first, (0, 1, 2, 1))]
            with self.subTest(row=row):
                self.assertEqual(world.letters(), [("paper", 0, order) for order in votes])
                self.assertEqual(world.voted(0, 1, 0), first)
                self.assertEqual(world.voted(0, 0, 1), (0, 1, 2, 1))

    def test_heard_twice_stands_where_it_was_heard_first(self):
        world = World(1, few=0, sums=[10, 0, 0], cheats=[0, 1])
        written_to(world, 0, (1, 0, 2, 5), (1, 0, 2, 4), (1, 0, 2, 5), (0, 0, 1, 5))
        world.come(0)
        self.assertEqual(world.voted(0, 1, 0), (1, 0, 2, 5))

    def test_of_clashing_ones_the_first_that_it_may(self):
        world = World(1, few=0, sums=[10, 0, 0], cheats=[0, 1])
        written_to(world, 0, (1, 0, 2, 6), (1, 0, 2, 5), (1, 0, 2, 4), (0, 0, 1, 5))
        world.come(0)
        self.assertEqual(world.voted(0, 1, 0), (1, 0, 2, 5))
        self.assertEqual(world.votes_for((1, 0, 2, 6)), [])
        self.assertEqual(world.votes_for((1, 0, 2, 4)), [])

    def test_votes_come_behind_all_that_is_settled(self):
        world = World(4, few=1, sums=[10, 0, 0], cheats=[2])
        zero, one, two = ahead(world, 3, (0, 1, 4), (0, 1, 4), (0, 1, 2))
        written_to(world, 3, (2, 0, 0, 1))
        for order in (two, one):
            bring(world, "paper", 3, order)
        for order in (zero, one, two):
            bring(world, "order", 3, order)
        self.assertEqual(world.voted(3, 0, 0), zero)
        bring(world, "paper", 3, zero)
        self.assertEqual(world.settled(3), [zero, one, two])
        self.assertIsNone(world.voted(3, 0, 1))
        self.assertIsNone(world.voted(3, 0, 2))
        self.assertEqual(world.votes_for(one), [0, 1, 2])

    def test_nothing_is_voted_for_when_a_paper_only_waits(self):
        world = World(4, few=1, sums=[10, 0, 0])
        zero, one = ahead(world, 3, (0, 1, 4), (0, 1, 4))
        bring(world, "order", 3, one)
        bring(world, "paper", 3, one)
        self.assertIsNone(world.voted(3, 0, 1))
        self.assertEqual(world.waits(3), [one])


class TestSettling(unittest.TestCase):
    def test_the_sum_goes_from_purse_to_goal(self):
        world = World(4, few=1, sums=[10, 3, 0])
        ask_through(world, 0, 2, 7)
        for house in range(4):
            self.assertEqual(world.sums(house), [3, 3, 7])

    def test_all_of_a_purse(self):
        world = World(1, few=0, sums=[1000, 0])
        ask_through(world, 0, 1, 1000)
        self.assertEqual(world.sums(0), [0, 1000])
        ask_through(world, 1, 0, 1000)
        self.assertEqual(world.sums(0), [1000, 0])

    def test_papers_that_come_out_of_turn(self):
        for row in itertools.permutations(range(4)):
            world = World(4, few=1, sums=[10, 0, 0])
            orders = ahead(world, 3, (0, 1, 4), (0, 1, 3), (0, 2, 2), (0, 2, 1))
            come = []
            for number in row:
                bring(world, "paper", 3, orders[number])
                come.append(number)
                done = [at for at in range(4) if all(below in come for below in range(at + 1))]
                with self.subTest(row=row, come=come):
                    self.assertEqual(world.settled(3), [orders[at] for at in done])
                    self.assertEqual(world.waits(3), [orders[at] for at in sorted(come) if at not in done])
            self.assertEqual(world.sums(3), [0, 7, 3])

    def test_sums_that_become_enough_only_by_a_later_paper(self):
        world = World(4, few=1, sums=[10, 0, 0])
        bring_in, spend = ahead(world, 3, (0, 1, 5), (1, 2, 5))
        bring(world, "paper", 3, spend)
        self.assertEqual(world.waits(3), [spend])
        self.assertEqual(world.sums(3), [10, 0, 0])
        bring(world, "paper", 3, bring_in)
        self.assertEqual(world.waits(3), [])
        self.assertEqual(world.settled(3), [bring_in, spend])
        self.assertEqual(world.sums(3), [5, 0, 5])

    def test_a_paper_that_comes_twice_is_settled_once(self):
        world = World(4, few=1, sums=[10, 0, 0])
        order = ask_through(world, 0, 1, 5)
        before = inner(world)
        world.show(order, 2)
        world.come(0)
        self.assertEqual(inner(world), before)

    def test_a_paper_that_comes_twice_waits_once(self):
        world = World(4, few=1, sums=[10, 0, 0])
        zero, one = ahead(world, 3, (0, 1, 4), (0, 1, 3))
        bring(world, "paper", 3, one)
        before = inner(world)
        world.show(one, 3)
        world.come(len(world.letters()) - 1)
        self.assertEqual(world.waits(3), [one])
        self.assertEqual(inner(world), before)
        bring(world, "paper", 3, zero)
        self.assertEqual(world.settled(3), [zero, one])
        self.assertEqual(world.waits(3), [])
        self.assertEqual(world.sums(3), [3, 7, 0])

    def test_a_paper_below_the_next_number_is_nothing(self):
        world = World(4, few=1, sums=[10, 0, 0])
        zero = ask_through(world, 0, 1, 4)
        ask_through(world, 0, 1, 3)
        before = inner(world)
        for house in range(4):
            world.show(zero, house)
            world.come(0)
            self.assertEqual(world.waits(house), [])
        self.assertEqual(inner(world), before)

    def test_waiting_papers_are_told_rising_whatever_came_first(self):
        world = World(4, few=1, sums=[10, 0, 9])
        first, *rest = ahead(world, 3, (0, 1, 4), (0, 1, 1), (0, 1, 2), (1, 2, 5), (1, 2, 1))
        for order in (rest[3], rest[1], rest[2], rest[0]):
            bring(world, "paper", 3, order)
        self.assertEqual(world.waits(3), sorted(rest))

    def test_the_one_that_came_first_is_looked_at_first(self):
        for turn in (0, 1):
            world = World(4, few=1, sums=[10, 0, 0])
            first, *rest = ahead(world, 3, (0, 1, 5), (1, 2, 5), (0, 2, 1))
            if turn:
                rest.reverse()
            for order in rest:
                bring(world, "paper", 3, order)
            bring(world, "paper", 3, first)
            with self.subTest(turn=turn):
                self.assertEqual(world.settled(3), [first] + rest)

    def test_behind_each_settlement_it_is_looked_at_again_from_the_first(self):
        world = World(4, few=1, sums=[10, 0, 0])
        first, second, third, fourth = ahead(world, 3, (0, 1, 5), (1, 2, 5), (2, 1, 5), (0, 2, 1))
        for order in (third, second, fourth, first):
            bring(world, "paper", 3, order)
        self.assertEqual(world.settled(3), [first, second, third, fourth])
        self.assertEqual(world.sums(3), [4, 5, 1])

    def test_what_can_not_be_settled_goes_on_waiting(self):
        world = World(4, few=1, sums=[10, 0, 0])
        zero, one, two = ahead(world, 3, (0, 1, 4), (0, 1, 3), (0, 1, 2))
        bring(world, "paper", 3, two)
        bring(world, "paper", 3, zero)
        self.assertEqual(world.waits(3), [two])
        self.assertEqual(world.settled(3), [zero])
        bring(world, "paper", 3, one)
        self.assertEqual(world.waits(3), [])
        self.assertEqual(world.settled(3), [zero, one, two])


if __name__ == "__main__":
    unittest.main()
