"""[6] and [7]: asking, cheating, lying, showing; letters, to whom and in which turn; what each refuses."""

import unittest

from manypurses.boards import checked
from manypurses.cuts import Cutting
from manypurses.errors import BadNumber, BadOrder, BadPaper, NoHouse, NoLetter, NoPurse, NotNow, TooMuch
from manypurses.worlds import World

from things import ask_through, bring, bring_all, inner, no_houses, no_numbers, no_orders, no_wholes


def letters_to(houses, word, order):
    return [(word, house, order) for house in houses]


class Refusing(unittest.TestCase):
    def refused(self, world, error, deed, *given, field=None, **named):
        """The deed is refused by just this error, with the field, and the world is as without it."""
        before = inner(world)
        with self.assertRaises(error) as caught:
            deed(*given, **named)
        self.assertIs(type(caught.exception), error)
        if error is NoHouse:
            self.assertIs(caught.exception.house, field)
        if error is NoPurse:
            self.assertIs(type(caught.exception.purse), type(field))
            self.assertTrue(caught.exception.purse is field or caught.exception.purse == field)
        self.assertEqual(inner(world), before)


class TestAsk(Refusing):
    def test_the_order_is_told_and_written_to_all_honest_houses_rising(self):
        world = World(7, few=2, sums=[10, 0, 0], liars=[1, 4])
        order = world.ask(0, 2, 7)
        self.assertEqual(order, (0, 0, 2, 7))
        self.assertIs(type(order), tuple)
        self.assertEqual(world.letters(), letters_to([0, 2, 3, 5, 6], "order", order))
        self.assertEqual(world.next_number(0), 1)
        self.assertEqual(world.next_number(1), 0)

    def test_letters_stand_behind_older_ones(self):
        world = World(4, few=1, sums=[10, 5, 0])
        one = world.ask(1, 0, 5)
        other = world.ask(0, 1, 10)
        self.assertEqual(world.letters(), letters_to(range(4), "order", one) + letters_to(range(4), "order", other))

    def test_a_letter_alone_is_no_vote(self):
        world = World(1, few=0, sums=[10, 0])
        order = world.ask(0, 1, 1)
        self.assertEqual(world.votes_for(order), [])
        self.assertIsNone(world.voted(0, 0, 0))

    def test_edges_of_the_sum(self):
        for much in (1, 2, 999, 1000):
            world = World(1, few=0, sums=[1000, 0])
            self.assertEqual(world.ask(0, 1, much), (0, 0, 1, much))

    def test_no_sum(self):
        world = World(4, few=1, sums=[10, 0, 0])
        for thing in no_numbers(1, 1000):
            self.refused(world, BadNumber, world.ask, 0, 1, thing)

    def test_no_purse_then_no_goal(self):
        world = World(4, few=1, sums=[10, 0, 0], cheats=[1])
        for thing in no_numbers(0, 2):
            self.refused(world, NoPurse, world.ask, thing, 1, 5, field=thing)
            self.refused(world, NoPurse, world.ask, thing, None, None, field=thing)
            self.refused(world, NoPurse, world.ask, thing, thing, 5, field=thing)
            self.refused(world, NoPurse, world.ask, 0, thing, 5, field=thing)
            self.refused(world, NoPurse, world.ask, 0, thing, None, field=thing)
            self.refused(world, NoPurse, world.ask, 1, thing, 5, field=thing)

    def test_a_cheats_purse_or_the_purse_as_its_own_goal(self):
        world = World(4, few=1, sums=[10, 5, 0], cheats=[1])
        self.refused(world, NoPurse, world.ask, 1, 2, 5, field=1)
        self.refused(world, NoPurse, world.ask, 1, 1, 5, field=1)
        self.refused(world, NoPurse, world.ask, 0, 0, 5, field=0)
        self.refused(world, NoPurse, world.ask, 2, 2, None, field=2)
        self.refused(world, NoPurse, world.ask, 1, 2, None, field=1)
        self.assertEqual(world.ask(0, 1, 5), (0, 0, 1, 5))

    def test_not_now_while_the_one_ahead_has_no_paper(self):
        world = World(4, few=1, sums=[10, 5, 0])
        order = world.ask(0, 1, 3)
        for house in range(3):
            self.refused(world, NotNow, world.ask, 0, 1, 1)
            bring(world, "order", house, order)
        self.assertEqual(world.papers(), [order])
        self.assertEqual(world.ask(0, 1, 1), (0, 1, 1, 1))
        self.refused(world, NotNow, world.ask, 0, 1, 1)
        self.assertEqual(world.ask(1, 0, 5), (1, 0, 0, 5))

    def test_not_now_behind_the_last_number(self):
        world = World(1, few=0, sums=[1000, 0])
        for number in range(100):
            self.assertEqual(world.next_number(0), number)
            self.assertEqual(ask_through(world, 0, 1, 1), (0, number, 1, 1))
        self.assertEqual(world.next_number(0), 100)
        self.assertEqual(world.sums(0), [900, 100])
        self.refused(world, NotNow, world.ask, 0, 1, 1)
        self.refused(world, NotNow, world.ask, 0, 1, 1000)
        self.assertEqual(ask_through(world, 1, 0, 1), (1, 0, 0, 1))

    def test_of_several_refusals_the_first_named(self):
        world = World(4, few=1, sums=[10, 5, 0])
        world.ask(0, 1, 3)
        self.refused(world, BadNumber, world.ask, 0, 1, 0)
        self.refused(world, BadNumber, world.ask, 0, 1, 1001)
        self.refused(world, NotNow, world.ask, 0, 1, 1000)
        self.refused(world, NoPurse, world.ask, 0, 0, 0, field=0)

    def test_next_number(self):
        world = World(4, few=1, sums=[10, 5, 0], cheats=[2])
        for thing in no_numbers(0, 2):
            self.refused(world, NoPurse, world.next_number, thing, field=thing)
        world.cheat((2, 0, 1, 1), 0)
        self.assertEqual(world.next_number(2), 0)


class TestTooMuch(Refusing):
    def test_by_the_first_sums(self):
        world = World(4, few=1, sums=[10, 0, 0])
        self.refused(world, TooMuch, world.ask, 1, 0, 1)
        self.refused(world, TooMuch, world.ask, 0, 1, 11)
        self.assertEqual(world.ask(0, 1, 10), (0, 0, 1, 10))

    def test_without_own_orders_that_were_not_settled(self):
        world = World(4, few=1, sums=[10, 0, 0])
        world.ask(0, 1, 6)
        bring_all(world, "order")
        self.assertEqual(world.sums(0), [10, 0, 0])
        self.refused(world, TooMuch, world.ask, 0, 1, 5)
        self.assertEqual(world.ask(0, 1, 4), (0, 1, 1, 4))

    def test_one_honest_house_that_knows_of_so_much(self):
        for house in range(4):
            world = World(4, few=1, sums=[10, 0, 0])
            order = world.ask(0, 1, 6)
            bring_all(world, "order")
            self.refused(world, TooMuch, world.ask, 1, 2, 1)
            bring(world, "paper", house, order)
            self.refused(world, TooMuch, world.ask, 1, 2, 7)
            self.assertEqual(world.ask(1, 2, 6), (1, 0, 2, 6))

    def test_what_was_brought_and_what_was_not_settled_at_each_house(self):
        world = World(4, few=1, sums=[10, 5, 0])
        own = world.ask(1, 2, 5)
        brought = world.ask(0, 1, 3)
        bring_all(world, "order")
        bring(world, "paper", 0, own)
        bring(world, "paper", 1, brought)
        self.assertEqual([world.sums(house)[1] for house in range(4)], [0, 8, 5, 5])
        self.refused(world, TooMuch, world.ask, 1, 0, 4)
        self.assertEqual(world.ask(1, 0, 3), (1, 1, 0, 3))

    def test_orders_of_other_owners_do_not_count(self):
        world = World(4, few=1, sums=[10, 10, 0])
        world.ask(0, 1, 10)
        self.assertEqual(world.ask(1, 0, 10), (1, 0, 0, 10))

    def test_own_orders_below_a_taken_cut_are_settled(self):
        world = World(4, few=1, sums=[10, 5, 0])
        cutting = Cutting(world)
        own = world.ask(0, 2, 6)
        bring_all(world, "order")
        for house in (0, 1, 2):
            bring(world, "paper", house, own)
            cut = cutting.sign(house)
        cutting.take(3, cut)
        brought = world.ask(1, 0, 5)
        bring_all(world, "order")
        bring(world, "paper", 3, brought)
        self.assertEqual(world.settled(3), [brought])
        self.assertEqual([world.sums(house)[0] for house in range(4)], [4, 4, 4, 9])
        self.refused(world, TooMuch, world.ask, 0, 1, 10)
        self.assertEqual(world.ask(0, 1, 9), (0, 1, 1, 9))


class TestCheat(Refusing):
    def test_one_letter_to_one_honest_house(self):
        world = World(4, few=1, sums=[10, 0, 0], liars=[1], cheats=[0, 2])
        self.assertIsNone(world.cheat((0, 0, 1, 5), 2))
        self.assertIsNone(world.cheat((0, 0, 1, 6), 0))
        self.assertIsNone(world.cheat((2, 99, 1, 1000), 3))
        self.assertIsNone(world.cheat((0, 0, 1, 5), 2))
        self.assertEqual(world.letters(), [("order", 2, (0, 0, 1, 5)), ("order", 0, (0, 0, 1, 6)),
                                           ("order", 3, (2, 99, 1, 1000)), ("order", 2, (0, 0, 1, 5))])
        self.assertEqual(world.next_number(0), 0)

    def test_refusals(self):
        world = World(4, few=1, sums=[10, 0, 0], liars=[1], cheats=[0])
        for thing in no_orders() + [(0, 0, 3, 1), (3, 0, 0, 1)]:
            self.refused(world, BadOrder, world.cheat, thing, 0)
        for order in ((1, 0, 0, 1), (2, 99, 0, 1000)):
            self.refused(world, NoPurse, world.cheat, order, 0, field=order[0])
        for thing in no_houses([0, 2, 3]):
            self.refused(world, NoHouse, world.cheat, (0, 0, 1, 1), thing, field=thing)

    def test_of_several_refusals_the_first_named(self):
        world = World(4, few=1, sums=[10, 0, 0], liars=[1], cheats=[0])
        self.refused(world, BadOrder, world.cheat, (1, 0, 1, 1), 1)
        self.refused(world, BadOrder, world.cheat, None, None)
        self.refused(world, NoPurse, world.cheat, (1, 0, 0, 1), 1, field=1)
        self.refused(world, NoPurse, world.cheat, (2, 0, 0, 1), None, field=2)

    def test_an_order_that_was_asked_is_none_of_a_cheat(self):
        world = World(4, few=1, sums=[10, 0, 0], cheats=[1])
        order = world.ask(0, 1, 5)
        self.refused(world, NoPurse, world.cheat, order, 0, field=0)


class TestLie(Refusing):
    def test_a_liar_votes_for_any_order_of_a_cheat(self):
        world = World(7, few=2, sums=[10, 0, 0], liars=[2, 5], cheats=[0])
        for liar, order in ((5, (0, 0, 1, 5)), (2, (0, 0, 1, 5)), (2, (0, 0, 1, 6)), (2, (0, 99, 2, 1000)),
                            (2, (0, 0, 1, 5))):
            self.assertIsNone(world.lie(liar, order))
        self.assertEqual(world.votes_for((0, 0, 1, 5)), [2, 5])
        self.assertEqual(world.votes_for((0, 0, 1, 6)), [2])
        self.assertEqual(world.votes_for((0, 99, 2, 1000)), [2])
        self.assertEqual(world.papers(), [])
        self.assertIs(world.is_still(), True)

    def test_of_an_honest_owner_only_what_was_asked(self):
        world = World(4, few=1, sums=[10, 0, 0], liars=[3], cheats=[2])
        self.refused(world, NoPurse, world.lie, 3, (0, 0, 1, 5), field=0)
        order = world.ask(0, 1, 5)
        world.lie(3, order)
        self.assertEqual(world.votes_for(order), [3])
        for other in ((0, 0, 1, 6), (0, 0, 2, 5), (0, 1, 1, 5), (1, 0, 0, 5)):
            self.refused(world, NoPurse, world.lie, 3, other, field=other[0])

    def test_refusals(self):
        world = World(4, few=1, sums=[10, 0, 0], liars=[1], cheats=[0])
        for thing in no_houses([1]):
            self.refused(world, NoHouse, world.lie, thing, (0, 0, 1, 1), field=thing)
            self.refused(world, NoHouse, world.lie, thing, None, field=thing)
            self.refused(world, NoHouse, world.lie, thing, (1, 0, 0, 1), field=thing)
        for thing in no_orders() + [(0, 0, 3, 1), (3, 0, 0, 1)]:
            self.refused(world, BadOrder, world.lie, 1, thing)

    def test_a_world_without_liars(self):
        world = World(4, few=1, sums=[10, 0, 0], cheats=[0])
        for liar in range(4):
            self.refused(world, NoHouse, world.lie, liar, (0, 0, 1, 1), field=liar)


class TestPapers(Refusing):
    def test_by_the_vote_of_an_honest_house(self):
        world = World(4, few=1, sums=[10, 0, 0])
        order = world.ask(0, 1, 5)
        for house in (2, 0):
            bring(world, "order", house, order)
        self.assertEqual(world.papers(), [])
        self.refused(world, BadPaper, world.paper, order)
        self.assertEqual(world.letters(), letters_to([1, 3], "order", order))
        bring(world, "order", 3, order)
        self.assertEqual(world.papers(), [order])
        self.assertEqual(world.paper(order), (order, (0, 2, 3)))
        self.assertEqual(world.letters(), letters_to([1], "order", order) + letters_to(range(4), "paper", order))

    def test_one_vote_more_is_no_new_paper_but_one_more_signer(self):
        world = World(4, few=1, sums=[10, 0, 0])
        order = world.ask(0, 1, 5)
        bring_all(world, "order")
        self.assertEqual(world.votes_for(order), [0, 1, 2, 3])
        self.assertEqual(world.paper(order), (order, (0, 1, 2, 3)))
        self.assertEqual(world.letters(), letters_to(range(4), "paper", order))

    def test_by_a_lie(self):
        world = World(4, few=1, sums=[10, 0, 0], liars=[1])
        order = world.ask(0, 1, 5)
        for house in (0, 3):
            bring(world, "order", house, order)
        world.lie(1, order)
        self.assertEqual(world.paper(order), (order, (0, 1, 3)))
        letters = letters_to([2], "order", order) + letters_to([0, 2, 3], "paper", order)
        self.assertEqual(world.letters(), letters)
        world.lie(1, order)
        self.assertEqual(world.letters(), letters)

    def test_a_lie_ahead_counts(self):
        world = World(4, few=1, sums=[10, 0, 0], liars=[1])
        order = world.ask(0, 1, 5)
        for time in range(3):
            world.lie(1, order)
        bring(world, "order", 0, order)
        self.assertEqual(world.papers(), [])
        bring(world, "order", 2, order)
        self.assertEqual(world.letters(), letters_to([3], "order", order) + letters_to([0, 2, 3], "paper", order))

    def test_by_a_vote_that_is_given_only_later(self):
        world = World(4, few=1, sums=[10, 0, 0])
        first = world.ask(0, 1, 5)
        bring_all(world, "order")
        second = world.ask(0, 2, 5)
        bring_all(world, "order")
        self.assertEqual(world.votes_for(second), [])
        for house in (3, 0):
            bring(world, "paper", house, first)
        self.assertEqual(world.letters(), letters_to([1, 2], "paper", first))
        bring(world, "paper", 2, first)
        self.assertEqual(world.paper(second), (second, (0, 2, 3)))
        self.assertEqual(world.letters(), letters_to([1], "paper", first) + letters_to(range(4), "paper", second))

    def test_of_a_cheats_order(self):
        world = World(4, few=1, sums=[10, 0, 0], liars=[0], cheats=[0])
        order = (0, 0, 2, 10)
        for house in (3, 1):
            world.cheat(order, house)
            world.come(0)
        world.lie(0, order)
        self.assertEqual(world.letters(), letters_to([1, 2, 3], "paper", order))
        bring_all(world)
        self.assertEqual(world.sums(2), [0, 0, 10])
        self.assertIsNone(world.voted(2, 0, 0))

    def test_enough_for_each_number_of_houses(self):
        for houses, few in ((1, 0), (2, 0), (4, 0), (4, 1), (7, 2), (16, 0), (16, 5)):
            world = World(houses, few=few, sums=[10, 0])
            order = world.ask(0, 1, 5)
            for turn in range(houses - few):
                self.assertEqual(world.papers(), [])
                world.come(0)
            with self.subTest(houses=houses, few=few):
                self.assertEqual(world.papers(), [order])
                self.assertIs(checked(world.paper(order), houses=houses, few=few, purses=2), True)

    def test_papers_rise(self):
        world = World(1, few=0, sums=[10, 10, 10])
        orders = [ask_through(world, purse, goal, 1) for purse, goal in ((2, 0), (0, 2), (0, 1), (1, 0), (2, 1))]
        self.assertEqual(world.papers(), sorted(orders))

    def test_refusals_of_paper_and_votes_for(self):
        world = World(4, few=1, sums=[10, 0, 0], liars=[3], cheats=[1])
        done = ask_through(world, 0, 1, 5)
        world.lie(3, (1, 0, 0, 1))
        for thing in no_orders() + [(0, 0, 3, 1), (3, 0, 0, 1), (done, (0, 1, 2))]:
            self.refused(world, BadOrder, world.paper, thing)
            self.refused(world, BadOrder, world.votes_for, thing)
        for order in ((0, 0, 1, 6), (0, 1, 1, 5), (1, 0, 0, 1), (2, 0, 0, 1)):
            self.refused(world, BadPaper, world.paper, order)
        self.assertEqual(world.votes_for((2, 0, 0, 1)), [])


class TestShow(Refusing):
    def test_the_paper_is_sent_once_more(self):
        world = World(4, few=1, sums=[10, 0, 0], liars=[1])
        order = ask_through(world, 0, 1, 5)
        before = [inner(world.sums(house)) for house in world.honest()]
        self.assertIsNone(world.show(order, 3))
        self.assertIsNone(world.show(order, 0))
        self.assertIsNone(world.show(order, 3))
        self.assertEqual(world.letters(), letters_to([3, 0, 3], "paper", order))
        bring_all(world)
        self.assertEqual([inner(world.sums(house)) for house in world.honest()], before)
        self.assertEqual(world.settled(3), [order])

    def test_refusals(self):
        world = World(4, few=1, sums=[10, 0, 0], liars=[1], cheats=[2])
        done = ask_through(world, 0, 1, 5)
        for thing in no_houses([0, 2, 3]):
            self.refused(world, NoHouse, world.show, done, thing, field=thing)
            self.refused(world, NoHouse, world.show, None, thing, field=thing)
        for thing in no_orders() + [(0, 0, 3, 1), (0, 0, 1, 6), (0, 1, 1, 5), (done, (0, 2, 3)), list(done)]:
            self.refused(world, BadPaper, world.show, thing, 0)
        asked = world.ask(0, 1, 1)
        world.lie(1, asked)
        self.refused(world, BadPaper, world.show, asked, 0)


class TestCome(Refusing):
    def test_the_first_a_middle_one_and_the_last(self):
        for at in range(4):
            world = World(4, few=1, sums=[10, 0, 0])
            order = world.ask(0, 1, 5)
            with self.subTest(at=at):
                told = world.come(at)
                self.assertEqual(told, ("order", at, order))
                self.assertIs(type(told), tuple)
                self.assertEqual(world.letters(), [("order", house, order) for house in range(4) if house != at])
                self.assertEqual(world.votes_for(order), [at])

    def test_beyond_both_ends_and_other_kinds(self):
        world = World(4, few=1, sums=[10, 0, 0])
        world.ask(0, 1, 5)
        for thing in no_numbers(0, 3):
            self.refused(world, NoLetter, world.come, thing)

    def test_without_letters(self):
        world = World(4, few=1, sums=[10, 0, 0])
        for thing in (0, -1, 1, True, False, None, [], ()):
            self.refused(world, NoLetter, world.come, thing)

    def test_what_a_paper_letter_tells(self):
        world = World(1, few=0, sums=[10, 0])
        order = world.ask(0, 1, 5)
        self.assertIs(world.is_still(), False)
        self.assertEqual(world.come(0), ("order", 0, order))
        self.assertIs(world.is_still(), False)
        self.assertEqual(world.come(0), ("paper", 0, order))
        self.assertIs(world.is_still(), True)

    def test_new_letters_stand_last(self):
        world = World(1, few=0, sums=[10, 10])
        one = world.ask(0, 1, 5)
        other = world.ask(1, 0, 5)
        world.come(0)
        self.assertEqual(world.letters(), [("order", 0, other), ("paper", 0, one)])
        world.come(0)
        self.assertEqual(world.letters(), [("paper", 0, one), ("paper", 0, other)])


class TestTelling(Refusing):
    def test_refusals_of_a_house(self):
        world = World(4, few=1, sums=[10, 0, 0], liars=[1])
        ask_through(world, 0, 1, 5)
        for thing in no_houses([0, 2, 3]):
            for tell in (world.sums, world.settled, world.waits):
                self.refused(world, NoHouse, tell, thing, field=thing)
            self.refused(world, NoHouse, world.voted, thing, 0, 0, field=thing)
            self.refused(world, NoHouse, world.voted, thing, None, 0, field=thing)

    def test_refusals_of_a_purse(self):
        world = World(4, few=1, sums=[10, 0, 0], liars=[1])
        for thing in no_numbers(0, 2):
            self.refused(world, NoPurse, world.voted, 0, thing, 0, field=thing)

    def test_voted(self):
        world = World(4, few=1, sums=[10, 0, 0])
        order = ask_through(world, 0, 1, 5)
        second = ask_through(world, 0, 1, 5)
        self.assertEqual(world.voted(3, 0, 0), order)
        self.assertEqual(world.voted(3, 0, 1), second)
        self.assertIsNone(world.voted(3, 1, 0))
        for number in [2, 99, 100, 200, -1, 10 ** 40] + no_wholes():
            self.assertIsNone(world.voted(3, 0, number))


if __name__ == "__main__":
    unittest.main()
