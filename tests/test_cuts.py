"""[8]: cuts, who signs which, good ones, and taking one."""

import itertools
import unittest

from manypurses.cuts import Cutting, cut_of, is_behind
from manypurses.errors import BadCut, BadPaper, NoHouse, NotNow
from manypurses.worlds import World

from things import OTHER_KINDS, PARTS, ask_through, bring, bring_all, inner, no_houses, no_wholes

FIRST = ((0, 0, 0), (10, 5, 0))


def no_worlds():
    return list(OTHER_KINDS + PARTS) + [World, Cutting(World(1, few=0, sums=[1, 1]))]


def no_cuts():
    """Things that are no cut of three purses with fifteen in all."""
    numbers, sums = FIRST
    things = [[numbers, sums], [list(numbers), list(sums)], (list(numbers), sums), (numbers, list(sums)), (numbers,),
              (numbers, sums, ()), (sums,), (numbers, numbers), (numbers + (0,), sums), (numbers, sums + (0,)),
              (numbers[:2], sums), (numbers, (10, 5)), ((), ()), (numbers, ()), (numbers + sums), {0: numbers, 1: sums},
              (numbers, (10, 5, 1)), (numbers, (10, 4, 0)), (numbers, (16, -1, 0)), (numbers, (-1, 16, 0)),
              ((-1, 0, 0), sums), ((0, 0, 100001), sums), ((0, 10 ** 40, 0), sums), (numbers, (100001, -99986, 0)),
              ((False, 0, 0), sums), ((0, True, 0), sums), (numbers, (10, 5, False)), (numbers, (14, True, 0)), sums]
    for part in no_wholes():
        things += [((0, part, 0), sums), (numbers, (part, 5, 0)), (numbers, part)]
        # A tuple of three whole numbers is a row of next numbers.
        things += [(part, sums)] if part != (0, 0, 1) else []
    return things + list(OTHER_KINDS) + list(PARTS)


class Cuts(unittest.TestCase):
    def setUp(self):
        self.world = World(4, few=1, sums=[10, 5, 0])
        self.cutting = Cutting(self.world)

    def refused(self, error, deed, *given, house=None):
        before = inner(self.cutting)
        with self.assertRaises(error) as caught:
            deed(*given)
        self.assertIs(type(caught.exception), error)
        if error is NoHouse:
            self.assertIs(caught.exception.house, house)
        self.assertEqual(inner(self.cutting), before)

    def leave_behind(self, house, *wishes):
        """Orders asked and settled everywhere but at one house."""
        orders = []
        for purse, goal, much in wishes:
            orders.append(self.world.ask(purse, goal, much))
            while any(letter[1] != house for letter in self.world.letters()):
                self.world.come([letter[1] != house for letter in self.world.letters()].index(True))
        return orders

    def sign_by(self, *houses):
        return [self.cutting.sign(house) for house in houses][-1]


class TestCutOf(Cuts):
    def test_how_a_house_stands(self):
        self.assertEqual(cut_of(self.world, 0), FIRST)
        orders = self.leave_behind(3, (0, 2, 4), (0, 1, 1), (2, 1, 3))
        self.assertEqual(orders[-1], (2, 0, 1, 3))
        for house in (0, 1, 2):
            self.assertEqual(cut_of(self.world, house), ((2, 0, 1), (5, 9, 1)))
        self.assertEqual(cut_of(self.world, 3), FIRST)

    def test_it_is_a_tuple_of_tuples(self):
        cut = cut_of(self.world, 0)
        self.assertEqual([type(cut), type(cut[0]), type(cut[1])], [tuple, tuple, tuple])

    def test_it_stays_as_it_was_when_the_house_goes_on(self):
        cut = cut_of(self.world, 0)
        ask_through(self.world, 0, 1, 4)
        self.assertEqual(cut, FIRST)

    def test_refusals(self):
        world = World(4, few=1, sums=[10, 5, 0], liars=[2])
        for thing in no_worlds():
            with self.assertRaises(BadPaper):
                cut_of(thing, 0)
            with self.assertRaises(BadPaper):
                cut_of(thing, None)
        before = inner(world)
        for thing in no_houses([0, 1, 3]):
            with self.assertRaises(NoHouse) as caught:
                cut_of(world, thing)
            self.assertIs(caught.exception.house, thing)
        self.assertEqual(inner(world), before)

    def test_a_cutting_of_no_world(self):
        for at, thing in enumerate(no_worlds()):
            with self.subTest(at=at), self.assertRaises(BadPaper):
                Cutting(thing)


class TestSign(Cuts):
    def test_an_honest_house_signs_just_how_it_stands(self):
        self.assertEqual(self.cutting.sign(2), FIRST)
        self.assertEqual(self.cutting.sign(0), FIRST)
        self.assertEqual(self.cutting.signers_of(FIRST), [0, 2])
        self.leave_behind(3, (0, 1, 4))
        later = ((1, 0, 0), (6, 9, 0))
        self.assertEqual(self.cutting.sign(2), later)
        self.assertEqual(self.cutting.sign(3), FIRST)
        self.assertEqual(self.cutting.signers_of(FIRST), [0, 2, 3])
        self.assertEqual(self.cutting.signers_of(later), [2])

    def test_twice_is_once(self):
        for turn in range(5):
            self.cutting.sign(1)
        self.assertEqual(self.cutting.signers_of(FIRST), [1])
        self.assertEqual(self.cutting.good(), [])

    def test_signing_changes_nothing_in_the_world(self):
        before = inner(self.world)
        self.sign_by(0, 1, 2, 3)
        self.assertEqual(inner(self.world), before)

    def test_no_honest_house(self):
        self.world = World(4, few=1, sums=[10, 5, 0], liars=[2])
        self.cutting = Cutting(self.world)
        for thing in no_houses([0, 1, 3]):
            self.refused(NoHouse, self.cutting.sign, thing, house=thing)

    def test_two_cuttings_of_one_world_stand_apart(self):
        other = Cutting(self.world)
        self.sign_by(0, 1, 2)
        self.assertEqual(other.signers_of(FIRST), [])
        self.assertEqual(other.good(), [])


class TestLieAndSigners(Cuts):
    def setUp(self):
        self.world = World(4, few=1, sums=[10, 5, 0], liars=[2])
        self.cutting = Cutting(self.world)

    def test_a_liar_may_sign_many(self):
        cuts = [FIRST, ((0, 0, 0), (0, 0, 15)), ((100000, 0, 7), (15, 0, 0)), ((100000,) * 3, (5, 5, 5))]
        for cut in cuts + cuts:
            self.assertIsNone(self.cutting.lie(2, cut))
        for cut in cuts:
            self.assertEqual(self.cutting.signers_of(cut), [2])
        self.assertEqual(self.cutting.good(), [])

    def test_sums_to_the_last_bound(self):
        world = World(4, few=1, sums=[1000] * 8, liars=[0])
        cutting = Cutting(world)
        cut = ((0,) * 8, (8000,) + (0,) * 7)
        cutting.lie(0, cut)
        self.assertEqual(cutting.signers_of(cut), [0])

    def test_no_liar_ahead_of_no_cut(self):
        for thing in no_houses([2]):
            self.refused(NoHouse, self.cutting.lie, thing, FIRST, house=thing)
            self.refused(NoHouse, self.cutting.lie, thing, None, house=thing)

    def test_no_cut(self):
        for thing in no_cuts():
            self.refused(BadCut, self.cutting.lie, 2, thing)
            self.refused(BadCut, self.cutting.signers_of, thing)

    def test_a_cut_that_nobody_signed(self):
        self.assertEqual(self.cutting.signers_of(FIRST), [])
        self.assertEqual(self.cutting.signers_of(((9, 9, 9), (1, 1, 13))), [])

    def test_the_told_lists_are_new(self):
        self.cutting.sign(0)
        self.cutting.sign(1)
        self.cutting.lie(2, FIRST)
        before = inner(self.cutting)
        self.cutting.signers_of(FIRST).clear()
        self.cutting.good().clear()
        self.cutting.signers_of(((9, 9, 9), (1, 1, 13))).append(0)
        self.assertEqual(inner(self.cutting), before)


class TestGood(Cuts):
    def test_enough_signers_and_one_less(self):
        for houses, few in ((1, 0), (2, 0), (4, 1), (7, 2), (16, 5)):
            cutting = Cutting(World(houses, few=few, sums=[10, 5, 0]))
            for house in range(houses - few):
                self.assertEqual(cutting.good(), [])
                cutting.sign(house)
            with self.subTest(houses=houses, few=few):
                self.assertEqual(cutting.good(), [FIRST])

    def test_a_liar_counts(self):
        world = World(4, few=1, sums=[10, 5, 0], liars=[2])
        cutting = Cutting(world)
        cutting.lie(2, FIRST)
        cutting.sign(3)
        self.assertEqual(cutting.good(), [])
        cutting.sign(0)
        self.assertEqual(cutting.good(), [FIRST])
        self.assertEqual(cutting.signers_of(FIRST), [0, 2, 3])

    def test_good_cuts_rise(self):
        order = self.world.ask(0, 1, 4)
        bring_all(self.world, "order")
        bring(self.world, "paper", 0, order)
        later = self.sign_by(0)
        early = self.sign_by(1, 2, 3)
        self.assertEqual(self.cutting.good(), [early])
        bring_all(self.world)
        self.assertEqual(self.sign_by(1, 2), later)
        self.assertEqual(self.cutting.good(), [early, later])
        self.assertLess(early, later)


class TestTake(Cuts):
    def test_by_a_house_that_is_behind(self):
        orders = self.leave_behind(3, (0, 1, 4), (1, 2, 9), (0, 2, 1))
        cut = self.sign_by(0, 1, 2)
        self.assertIsNone(self.cutting.take(3, cut))
        self.assertEqual(cut_of(self.world, 3), cut)
        self.assertEqual(self.world.sums(3), [5, 0, 10])
        self.assertEqual(self.world.settled(3), [])
        bring_all(self.world)
        self.assertEqual(cut_of(self.world, 3), cut)
        self.assertEqual(self.world.settled(3), [])
        self.assertEqual(self.world.waits(3), [])
        self.assertEqual(self.world.settled(0), orders)

    def test_by_a_house_that_stands_so_already(self):
        cut = self.sign_by(0, 1, 2)
        before = inner(self.cutting)
        self.cutting.take(3, cut)
        self.assertEqual(inner(self.cutting), before)

    def test_by_one_that_is_not_behind(self):
        cut = self.sign_by(0, 1, 2)
        order = self.world.ask(0, 1, 4)
        bring_all(self.world, "order")
        bring(self.world, "paper", 1, order)
        self.refused(NotNow, self.cutting.take, 1, cut)
        self.cutting.take(0, cut)

    def test_by_one_that_is_behind_in_one_purse_and_ahead_in_another(self):
        one = self.world.ask(0, 1, 4)
        other = self.world.ask(1, 0, 5)
        bring_all(self.world, "order")
        for house in (0, 1, 2):
            bring(self.world, "paper", house, one)
        cut = self.sign_by(0, 1, 2)
        bring(self.world, "paper", 3, other)
        self.refused(NotNow, self.cutting.take, 3, cut)

    def test_of_a_cut_that_too_few_have_signed(self):
        self.leave_behind(3, (0, 1, 4))
        cut = self.sign_by(0, 1)
        self.refused(BadCut, self.cutting.take, 3, cut)
        self.refused(BadCut, self.cutting.take, 0, cut)
        self.refused(BadCut, self.cutting.take, 3, ((9, 9, 9), (15, 0, 0)))
        self.sign_by(2)
        self.cutting.take(3, cut)

    def test_of_what_is_no_cut(self):
        self.sign_by(0, 1, 2)
        for thing in no_cuts():
            self.refused(BadCut, self.cutting.take, 3, thing)

    def test_of_several_refusals_the_first_named(self):
        self.world = World(4, few=1, sums=[10, 5, 0], liars=[3])
        self.cutting = Cutting(self.world)
        early = self.sign_by(0, 1, 2)
        ask_through(self.world, 0, 1, 4)
        for thing in no_houses([0, 1, 2]):
            self.refused(NoHouse, self.cutting.take, thing, early, house=thing)
            self.refused(NoHouse, self.cutting.take, thing, None, house=thing)
        self.refused(BadCut, self.cutting.take, 0, ((0, 0, 0), (0, 0, 15)))
        self.refused(BadCut, self.cutting.take, 0, list(early))
        self.refused(NotNow, self.cutting.take, 0, early)

    def test_the_others_stand_as_they_stood(self):
        self.leave_behind(3, (0, 1, 4))
        cut = self.sign_by(0, 1, 2)
        before = [inner(self.world.keepers[house]) for house in (0, 1, 2)]
        self.cutting.take(3, cut)
        self.assertEqual([inner(self.world.keepers[house]) for house in (0, 1, 2)], before)

    def test_the_house_goes_on_without_changing_the_cut(self):
        self.leave_behind(3, (0, 1, 4))
        cut = self.sign_by(0, 1, 2)
        self.cutting.take(3, cut)
        bring_all(self.world)
        ask_through(self.world, 0, 1, 1)
        self.assertEqual(cut, ((1, 0, 0), (6, 9, 0)))
        self.assertEqual(self.cutting.good(), [cut])
        self.assertEqual(cut_of(self.world, 3), ((2, 0, 0), (5, 10, 0)))


class TestBehindATakenCut(Cuts):
    def test_waiting_papers_below_are_nothing_any_more(self):
        orders = self.leave_behind(3, (0, 1, 4), (0, 1, 3), (0, 1, 2))
        for order in (orders[2], orders[1]):
            bring(self.world, "paper", 3, order)
        cut = self.sign_by(0, 1, 2)
        self.assertEqual(self.world.waits(3), orders[1:])
        self.cutting.take(3, cut)
        self.assertEqual(self.world.waits(3), [])
        self.assertEqual(self.world.settled(3), [])

    def test_waiting_papers_are_settled_from_there(self):
        first = self.leave_behind(3, (0, 1, 4), (0, 1, 3))
        cut = self.sign_by(0, 1, 2)
        third, spend, last = self.leave_behind(3, (0, 2, 2), (1, 2, 12), (0, 2, 1))
        for order in (last, spend, third, first[1]):
            bring(self.world, "paper", 3, order)
        self.assertEqual(self.world.settled(3), [])
        self.cutting.take(3, cut)
        self.assertEqual(self.world.settled(3), [spend, third, last])
        self.assertEqual(self.world.waits(3), [])
        self.assertEqual(cut_of(self.world, 3), cut_of(self.world, 0))

    def test_those_beyond_go_on_waiting(self):
        self.leave_behind(3, (0, 1, 4))
        cut = self.sign_by(0, 1, 2)
        second, third = self.leave_behind(3, (0, 1, 3), (0, 1, 2))
        bring(self.world, "paper", 3, third)
        self.cutting.take(3, cut)
        self.assertEqual(self.world.waits(3), [third])
        bring(self.world, "paper", 3, second)
        self.assertEqual(self.world.settled(3), [second, third])

    def test_then_it_votes_in_the_order_in_which_it_heard(self):
        late = [(2, 0, 0, 4), (1, 0, 2, 6), (2, 0, 0, 3)]
        for row in itertools.permutations(late):
            self.world = World(4, few=1, sums=[10, 5, 0], liars=[1], cheats=[1, 2])
            self.cutting = Cutting(self.world)
            for order in row:
                self.world.cheat(order, 3)
                self.world.come(0)
                # The liar and one more stand on the board, so that the late vote makes a paper.
                self.world.lie(1, order)
            for order in late:
                self.assertEqual(self.world.votes_for(order), [1])
            for purse, goal, much in ((0, 2, 4), (0, 1, 1)):
                order = self.world.ask(purse, goal, much)
                self.world.lie(1, order)
                for house in (0, 2):
                    bring(self.world, "order", house, order)
                for house in (0, 2):
                    bring(self.world, "paper", house, order)
            first = [order for order in row if order[0] == 2][0]
            for order in (first, (1, 0, 2, 6)):
                self.world.cheat(order, 0)
                bring(self.world, "order", 0, order)
            cut = self.sign_by(0, 2)
            self.cutting.lie(1, cut)
            before = self.world.letters()
            self.cutting.take(3, cut)
            votes = [order for order in row if order in (first, (1, 0, 2, 6))]
            with self.subTest(row=row):
                told = [("paper", house, order) for order in votes for house in (0, 2, 3)]
                self.assertEqual(self.world.letters(), before + told)
                self.assertEqual(self.world.voted(3, 2, 0), first)
                self.assertEqual(self.world.votes_for(first), [0, 1, 3])

    def test_it_votes_behind_what_it_settles_then(self):
        self.leave_behind(3, (0, 1, 4))
        cut = self.sign_by(0, 1, 2)
        second = self.leave_behind(3, (0, 1, 3))[0]
        third = self.world.ask(0, 1, 1)
        for order in (third, second):
            bring(self.world, "order", 3, order)
        bring(self.world, "paper", 3, second)
        self.cutting.take(3, cut)
        self.assertEqual(self.world.settled(3), [second])
        self.assertIsNone(self.world.voted(3, 0, 1))
        self.assertEqual(self.world.voted(3, 0, 2), third)


class TestIsBehind(unittest.TestCase):
    def test_every_pair_of_short_cuts(self):
        rows = list(itertools.product(range(3), repeat=2))
        for one, other in itertools.product(rows, repeat=2):
            told = one[0] <= other[0] and one[1] <= other[1]
            with self.subTest(one=one, other=other):
                self.assertIs(is_behind((one, (5, 0)), (other, (0, 5))), told)

    def test_sums_do_not_count(self):
        self.assertIs(is_behind(((1, 1), (9, 0)), ((1, 1), (0, 9))), True)
        self.assertIs(is_behind(((1, 1), (0, 9)), ((1, 1), (9, 0))), True)


if __name__ == "__main__":
    unittest.main()
