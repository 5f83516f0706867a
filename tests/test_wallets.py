"""[10]: wallets: their papers, what they have, the next number and the next order."""

import inspect
import itertools
import unittest

from manypurses.errors import BadHouses, BadNumber, BadPaper, NoPurse, PurseError, TooMuch
from manypurses.orders import is_order, summed
from manypurses.wallets import Wallet

from things import (OTHER_KINDS, PARTS, Drawn, Play, ask_through, inner, nested, no_numbers, no_orders, no_wholes,
                    round_list)

SUMS = [10, 0, 5]
SIGNERS = (0, 1, 2)
NO_SUMS = (
    None, True, False, 0, 5, "", "55", b"55", [], [5], (), (5, 5), ((5, 5),), {}, {0: 5, 1: 5}, set(), {5, 6},
    range(3), object(), list, nested(3), round_list(), [5, None], [[5], [5]], [[5, 5]], [5, 5, [5]],
)


def wallet(purse=0, **given):
    return Wallet(purse, **{"sums": list(SUMS), "houses": 4, "few": 1, **given})


def refusal(purse=0, **given):
    """The class by which a wallet is refused, or None."""
    try:
        wallet(purse, **given)
    except PurseError as why:
        return type(why)
    return None


def paper(*order, by=SIGNERS):
    return (order, by)


class TestMade(unittest.TestCase):
    def test_two_and_more_sums(self):
        for many in range(40):
            with self.subTest(many=many):
                self.assertEqual(refusal(sums=[5] * many), BadHouses if many < 2 else None)

    def test_sums_from_nought_to_a_thousand(self):
        self.assertIsNone(refusal(sums=[0, 1000]))
        for at, thing in enumerate(no_numbers(0, 1000)):
            for sums in ([thing, 5], [5, thing], [5] * 9 + [thing]):
                with self.subTest(at=at, many=len(sums)):
                    self.assertEqual(refusal(sums=sums), BadHouses)

    def test_what_is_no_list_of_sums(self):
        for at, thing in enumerate(NO_SUMS):
            with self.subTest(at=at):
                self.assertEqual(refusal(sums=thing), BadHouses)

    def test_the_purse_is_one_of_the_sums(self):
        for many in range(2, 12):
            for purse in range(-2, 14):
                with self.subTest(many=many, purse=purse):
                    self.assertEqual(refusal(purse, sums=[5] * many), None if 0 <= purse < many else NoPurse)

    def test_no_purse_tells_what_was_handed_in(self):
        for at, thing in enumerate(no_numbers(0, 2)):
            with self.subTest(at=at):
                with self.assertRaises(NoPurse) as caught:
                    wallet(thing)
                self.assertIs(caught.exception.purse, thing)

    def test_every_pair_of_houses_and_few(self):
        for houses in range(-2, 20):
            for few in range(-2, 8):
                fits = 1 <= houses <= 16 and 0 <= few <= 5
                with self.subTest(houses=houses, few=few):
                    self.assertEqual(refusal(houses=houses, few=few), None if fits else BadNumber)

    def test_houses_and_few_of_other_kinds(self):
        for at, thing in enumerate(no_wholes()):
            with self.subTest(at=at):
                self.assertEqual(refusal(houses=thing), BadNumber)
                self.assertEqual(refusal(few=thing), BadNumber)
                self.assertEqual(refusal(houses=thing, few=thing), BadNumber)

    def test_of_several_faults_the_first_named_is_told(self):
        purses = (0, 3, -1, None, True, [], round_list())
        for sums, purse, houses, few in itertools.product((SUMS, [5], None, [5, True]), purses,
                                                          (4, 0, 17, None, True), (1, 6, -1, None, [])):
            told = None
            if sums is not SUMS:
                told = BadHouses
            elif purse is not purses[0]:
                told = NoPurse
            elif houses != 4 or few != 1 or houses is True:
                told = BadNumber
            with self.subTest(sums=sums, purse=repr(purse), houses=houses, few=few):
                self.assertEqual(refusal(purse, sums=sums, houses=houses, few=few), told)

    def test_all_but_the_purse_are_handed_in_by_their_names(self):
        with self.assertRaises(TypeError):
            Wallet(0, SUMS, 4, 1)
        for left_out in ("sums", "houses", "few"):
            given = {"sums": SUMS, "houses": 4, "few": 1}
            del given[left_out]
            with self.assertRaises(TypeError):
                Wallet(0, **given)
        self.assertEqual(list(inspect.signature(Wallet).parameters)[1:], ["sums", "houses", "few"])

    def test_a_new_wallet(self):
        for purse, has in enumerate(SUMS):
            self.assertEqual(wallet(purse).has(), has)
            self.assertEqual(wallet(purse).next_number(), 0)

    def test_sums_that_are_changed_behind(self):
        sums = [10, 0, 5]
        mine = wallet(2, sums=sums)
        before = inner(mine)
        self.assertEqual(sums, [10, 0, 5])
        sums[2] = 900
        self.assertEqual(inner(mine), before)
        sums.append(1)
        self.assertEqual(inner(mine), before)
        with self.assertRaises(BadPaper):
            mine.add(paper(3, 0, 2, 1))
        sums.clear()
        self.assertEqual((mine.has(), mine.order(0, 5)), (5, (2, 0, 0, 5)))
        self.assertEqual(inner(mine), before)


class TestAdd(unittest.TestCase):
    def test_an_own_order(self):
        mine = wallet()
        self.assertIs(mine.add(paper(0, 0, 1, 4)), True)
        self.assertEqual((mine.has(), mine.next_number()), (6, 1))

    def test_what_brings_something(self):
        mine = wallet()
        self.assertIs(mine.add(paper(1, 0, 0, 4)), True)
        self.assertEqual((mine.has(), mine.next_number()), (14, 0))

    def test_what_concerns_another_purse(self):
        mine = wallet()
        before = inner(mine)
        for order in ((1, 0, 2, 4), (2, 0, 1, 4), (1, 99, 2, 1000)):
            self.assertIs(mine.add((order, SIGNERS)), False)
            self.assertIs(mine.add((order, SIGNERS)), False)
        self.assertEqual(inner(mine), before)

    def test_the_same_once_more_and_with_other_signers(self):
        for order in ((0, 0, 1, 4), (1, 0, 0, 4)):
            mine = wallet()
            self.assertIs(mine.add((order, (0, 1, 2))), True)
            before = inner(mine)
            for signers in ((0, 1, 2), (1, 2, 3), (0, 1, 2, 3)):
                with self.subTest(order=order, signers=signers):
                    self.assertIs(mine.add((order, signers)), False)
                    self.assertEqual(inner(mine), before)

    def test_own_papers_count_by_number(self):
        mine = wallet()
        self.assertIs(mine.add(paper(0, 0, 1, 4)), True)
        for order in ((0, 0, 1, 5), (0, 0, 2, 4)):
            self.assertIs(mine.add((order, SIGNERS)), False)
        self.assertEqual(mine.has(), 6)
        self.assertIs(mine.add(paper(0, 1, 1, 4)), True)
        self.assertEqual(mine.has(), 2)

    def test_papers_that_bring_something_count_by_place(self):
        mine = wallet()
        self.assertIs(mine.add(paper(1, 0, 0, 4)), True)
        self.assertIs(mine.add(paper(1, 0, 0, 5)), False)
        self.assertEqual(mine.has(), 14)
        for order, has in (((1, 1, 0, 4), 18), ((2, 0, 0, 4), 22), ((2, 1, 0, 4), 26), ((0, 1, 1, 3), 23)):
            with self.subTest(order=order):
                self.assertIs(mine.add((order, SIGNERS)), True)
                self.assertEqual(mine.has(), has)

    def test_another_order_of_a_place_that_brings_nothing_counts_nothing(self):
        mine = wallet()
        self.assertIs(mine.add(paper(1, 0, 2, 4)), False)
        self.assertIs(mine.add(paper(1, 0, 0, 4)), True)
        self.assertIs(mine.add(paper(1, 0, 2, 4)), False)
        self.assertEqual(mine.has(), 14)

    def test_enough_houses_by_the_wallet_s_own_numbers(self):
        for houses in range(1, 17):
            for few in range(6):
                if houses > 3 * few:
                    enough = houses - few
                    mine = wallet(houses=houses, few=few)
                    with self.subTest(houses=houses, few=few):
                        with self.assertRaises(BadPaper):
                            mine.add(paper(0, 0, 1, 4, by=tuple(range(enough - 1))))
                        with self.assertRaises(BadPaper):
                            mine.add(paper(0, 0, 1, 4, by=tuple(range(1, houses + 1))))
                        self.assertIs(mine.add(paper(0, 0, 1, 4, by=tuple(range(few, houses)))), True)

    def test_what_is_no_paper_is_refused_and_changes_nothing(self):
        wrong = list(OTHER_KINDS + PARTS) + [(thing, SIGNERS) for thing in no_orders()]
        wrong += [((0, 0, 1, 4), thing) for thing in OTHER_KINDS + PARTS]
        wrong += [((0, 0, 1, 4), signers) for signers in (
            (0, 1), (0, 1, 4), (-1, 0, 1), (2, 1, 0), (0, 1, 1), (0, 0, 1, 2), (0, True, 2), (False, 1, 2),
            [0, 1, 2], (0, 1, None), (0, 1, "2"), (0, 1, 2, 3, 4))]
        wrong += [[(0, 0, 1, 4), SIGNERS], ([0, 0, 1, 4], SIGNERS), ((0, 0, 1, 4),), ((0, 0, 1, 4), SIGNERS, ()),
                  (SIGNERS, (0, 0, 1, 4)), (0, 0, 1, 4), ((0, 0, True, 4), SIGNERS), ((False, 0, 1, 4), SIGNERS),
                  ((3, 0, 0, 4), SIGNERS), ((0, 0, 3, 4), SIGNERS), ((1, 0, 3, 4), SIGNERS)]
        for filled in (False, True):
            mine = wallet()
            if filled:
                mine.add(paper(0, 0, 1, 4))
                mine.add(paper(1, 0, 0, 7))
            before = inner(mine)
            for at, thing in enumerate(wrong):
                with self.subTest(filled=filled, at=at):
                    with self.assertRaises(BadPaper):
                        mine.add(thing)
                    self.assertEqual(inner(mine), before)

    def test_more_than_eight_purses(self):
        mine = wallet(9, sums=[0] * 9 + [20, 7])
        self.assertEqual(mine.order(10, 20), (9, 0, 10, 20))
        self.assertIs(mine.add((mine.order(8, 5), SIGNERS)), True)
        self.assertIs(mine.add(paper(10, 0, 9, 6)), True)
        self.assertIs(mine.add(paper(10, 0, 9, 6)), False)
        self.assertIs(mine.add(paper(10, 1, 8, 6)), False)
        self.assertEqual((mine.has(), mine.next_number()), (21, 1))
        for order in ((11, 0, 9, 1), (9, 0, 11, 1)):
            with self.assertRaises(BadPaper):
                mine.add((order, SIGNERS))


class TestHas(unittest.TestCase):
    def test_papers_in_any_row_also_below_nought_on_the_way(self):
        papers = [paper(0, 0, 1, 8), paper(0, 1, 2, 9), paper(1, 0, 0, 6), paper(2, 3, 0, 5), paper(1, 0, 2, 5)]
        for row in itertools.permutations(papers):
            mine = wallet()
            told = [10]
            for each in row:
                mine.add(each)
                told.append(mine.has())
            with self.subTest(row=row):
                self.assertEqual(told[-1], 4)
                orders = [order for order, signers in row]
                self.assertEqual(told, [summed(orders[:at], SUMS)[0] for at in range(6)])

    def test_it_may_stay_below_nought(self):
        mine = wallet(1)
        mine.add(paper(1, 5, 0, 1000))
        self.assertEqual((mine.has(), mine.next_number()), (-1000, 0))
        with self.assertRaises(TooMuch):
            mine.order(0, 1)

    def test_all_papers_of_drawn_worlds(self):
        papers_told = 0
        for seed in range(48):
            play = Play(seed)
            for turn in range(120):
                play.step()
            if seed % 3:
                play.end()
            orders = play.world.papers()
            papers = [play.world.paper(order) for order in orders]
            papers_told += len(papers)
            left = summed(orders, play.sums)
            for row in (papers, papers[::-1], papers + papers, Drawn(seed).mixed(papers + papers[::2])):
                for purse in range(3):
                    mine = Wallet(purse, sums=play.sums, houses=play.houses, few=play.few)
                    new = [mine.add(each) for each in row].count(True)
                    with self.subTest(seed=seed, purse=purse):
                        self.assertEqual(mine.has(), left[purse])
                        self.assertEqual(new, len([order for order in orders if purse in (order[0], order[2])]))
                        own = [order[1] for order in orders if order[0] == purse]
                        self.assertEqual(mine.next_number(), min(set(range(101)) - set(own)))
        self.assertGreater(papers_told, 200)


class TestNextNumber(unittest.TestCase):
    def test_the_first_without_an_own_paper(self):
        mine = wallet()
        for number, told in ((1, 0), (3, 0), (0, 2), (4, 2), (2, 5), (99, 5), (5, 6)):
            mine.add(paper(0, number, 1, 1))
            with self.subTest(number=number):
                self.assertEqual(mine.next_number(), told)

    def test_papers_of_other_purses_do_not_count(self):
        mine = wallet()
        mine.add(paper(1, 0, 0, 1))
        mine.add(paper(2, 0, 0, 1))
        self.assertEqual(mine.next_number(), 0)

    def test_behind_the_last_number(self):
        mine = wallet(sums=[1000, 0])
        for number in reversed(range(100)):
            self.assertEqual(mine.next_number(), 0)
            mine.add(paper(0, number, 1, 1))
        self.assertEqual(mine.next_number(), 100)
        self.assertEqual(mine.order(1, 900), (0, 100, 1, 900))


class TestOrder(unittest.TestCase):
    def test_the_order_with_its_number(self):
        mine = wallet(2)
        self.assertEqual(mine.order(0, 5), (2, 0, 0, 5))
        mine.add(paper(2, 0, 0, 5))
        mine.add(paper(0, 0, 2, 9))
        self.assertEqual(mine.order(1, 9), (2, 1, 1, 9))
        mine.add(paper(2, 2, 1, 1))
        told = mine.order(1, 8)
        self.assertEqual(told, (2, 1, 1, 8))
        self.assertIs(type(told), tuple)
        self.assertIs(is_order(told, purses=3), True)

    def test_making_an_order_changes_nothing(self):
        mine = wallet()
        before = inner(mine)
        self.assertEqual([mine.order(1, 10) for turn in range(3)], [(0, 0, 1, 10)] * 3)
        self.assertEqual(inner(mine), before)

    def test_just_so_much_and_one_more(self):
        mine = wallet(sums=[1000, 1000])
        mine.add(paper(0, 0, 1, 990))
        self.assertEqual(mine.order(1, 10), (0, 1, 1, 10))
        with self.assertRaises(TooMuch):
            mine.order(1, 11)
        mine.add(paper(1, 0, 0, 1000))
        self.assertEqual(mine.order(1, 1000), (0, 1, 1, 1000))
        with self.assertRaises(BadNumber):
            mine.order(1, 1001)

    def test_no_other_purse_is_told_with_the_goal(self):
        mine = wallet(1, sums=[5, 5, 5])
        before = inner(mine)
        for at, goal in enumerate([1] + no_numbers(0, 2)):
            for much in (5, 6, 0, None, round_list()):
                with self.subTest(at=at):
                    with self.assertRaises(NoPurse) as caught:
                        mine.order(goal, much)
                    self.assertIs(caught.exception.purse, goal)
        self.assertEqual(inner(mine), before)

    def test_no_sum(self):
        for purse in (0, 1):
            mine = wallet(purse)
            before = inner(mine)
            for at, much in enumerate(no_numbers(1, 1000)):
                with self.subTest(purse=purse, at=at):
                    with self.assertRaises(BadNumber):
                        mine.order(2, much)
            self.assertEqual(inner(mine), before)

    def test_too_much(self):
        for purse, has in enumerate(SUMS):
            mine = wallet(purse)
            for much in (has + 1, 1000):
                with self.subTest(purse=purse, much=much):
                    with self.assertRaises(TooMuch):
                        mine.order((purse + 1) % 3, much)

    def test_a_wallet_beside_a_world(self):
        play = Play(1)
        world, mine = play.world, Wallet(0, sums=play.sums, houses=play.houses, few=play.few)
        while mine.has():
            order = mine.order(1, (mine.has() + 1) // 2)
            self.assertEqual(ask_through(world, *order[:1], *order[2:]), order)
            self.assertIs(mine.add(world.paper(order)), True)
            self.assertEqual(world.sums(world.honest()[0])[0], mine.has())
        self.assertGreater(mine.next_number(), 2)


class TestTwoWallets(unittest.TestCase):
    def test_they_share_nothing(self):
        one, other = wallet(0), wallet(0)
        before = inner(other)
        one.add(paper(0, 0, 1, 4))
        one.add(paper(1, 0, 0, 4))
        self.assertEqual(inner(other), before)


if __name__ == "__main__":
    unittest.main()
