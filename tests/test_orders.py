"""[1] and [2]: orders, their places, clashes and what they do to sums."""

import copy
import inspect
import itertools
import unittest

from manypurses.errors import BadOrder
from manypurses.orders import are_orders, clash, is_order, place_of, summed

from things import BEYOND, ORDERS, OTHER_KINDS, no_orders, spoilt


class TestIsOrder(unittest.TestCase):
    def test_orders_at_the_edges(self):
        for order in ORDERS:
            with self.subTest(order=order):
                self.assertIs(is_order(order), True)
                self.assertIs(is_order(order, purses=8), True)

    def test_one_step_beyond(self):
        for at, thing in enumerate(BEYOND):
            with self.subTest(at=at):
                self.assertIs(is_order(thing), False)

    def test_things_of_other_kinds(self):
        for at, thing in enumerate(OTHER_KINDS):
            with self.subTest(at=at):
                self.assertIs(is_order(thing), False)
                self.assertIs(is_order(thing, purses=2), False)

    def test_other_kinds_at_each_place(self):
        for at, thing in enumerate(spoilt()):
            with self.subTest(at=at):
                self.assertIs(is_order(thing), False)

    def test_true_and_false_are_no_whole_numbers(self):
        for thing in ((False, 0, 1, 1), (True, 0, 0, 1), (0, False, 1, 1), (0, True, 1, 1),
                      (1, 0, False, 1), (0, 0, True, 1), (0, 0, 1, True), (0, 0, 1, False)):
            with self.subTest(thing=thing):
                self.assertIs(is_order(thing), False)

    def test_two_purses(self):
        self.assertIs(is_order((0, 0, 1, 1), purses=2), True)
        self.assertIs(is_order((1, 99, 0, 1000), purses=2), True)
        for thing in ((2, 0, 0, 1), (0, 0, 2, 1), (2, 0, 1, 1), (1, 0, 1, 1), (-1, 0, 0, 1), (0, 0, -1, 1)):
            with self.subTest(thing=thing):
                self.assertIs(is_order(thing, purses=2), False)

    def test_purse_and_goal_for_each_number_of_purses(self):
        for purses in range(2, 9):
            for purse, goal in itertools.product(range(-2, 11), repeat=2):
                there = 0 <= purse < purses and 0 <= goal < purses and purse != goal
                with self.subTest(purses=purses, purse=purse, goal=goal):
                    self.assertIs(is_order((purse, 0, goal, 1), purses=purses), there)

    def test_number_and_sum(self):
        self.assertEqual([at for at in range(-5, 200) if is_order((0, at, 1, 1))], list(range(100)))
        self.assertEqual([at for at in range(-5, 1200) if is_order((0, 0, 1, at))], list(range(1, 1001)))

    def test_purses_somewhat_beyond_the_bounds(self):
        self.assertIs(is_order((8, 0, 0, 1), purses=9), True)
        self.assertIs(is_order((9, 0, 0, 1), purses=9), False)
        self.assertIs(is_order((0, 0, 1, 1), purses=1), False)
        self.assertIs(is_order((0, 0, 1, 1), purses=0), False)

    def test_purses_is_handed_in_by_its_name_and_eight_when_left_out(self):
        with self.assertRaises(TypeError):
            is_order((0, 0, 1, 1), 8)
        self.assertEqual(inspect.signature(is_order).parameters["purses"].default, 8)

    def test_what_is_handed_in_is_not_changed(self):
        thing = ([0], {1: 2}, [[3]], {4})
        before = copy.deepcopy(thing)
        is_order(thing)
        self.assertEqual(thing, before)


class TestPlaceOf(unittest.TestCase):
    def test_the_pair_of_purse_and_number(self):
        for order in ORDERS:
            with self.subTest(order=order):
                self.assertEqual(place_of(order), order[:2])
                self.assertIsInstance(place_of(order), tuple)

    def test_of_what_is_no_order(self):
        for at, thing in enumerate(no_orders()):
            with self.subTest(at=at), self.assertRaises(BadOrder):
                place_of(thing)


class TestClash(unittest.TestCase):
    def test_unlike_orders_of_one_place(self):
        for one, other in (((0, 0, 1, 1), (0, 0, 2, 1)), ((0, 0, 1, 1), (0, 0, 1, 2)),
                           ((7, 99, 0, 1), (7, 99, 6, 1000))):
            with self.subTest(one=one, other=other):
                self.assertIs(clash(one, other), True)
                self.assertIs(clash(other, one), True)

    def test_the_same_order_twice(self):
        for order in ORDERS:
            with self.subTest(order=order):
                self.assertIs(clash(order, order), False)
                self.assertIs(clash(order, tuple(list(order))), False)

    def test_orders_of_other_places(self):
        for one, other in (((0, 0, 2, 1), (1, 0, 2, 1)), ((0, 0, 1, 1), (0, 1, 1, 1)),
                           ((0, 1, 2, 5), (1, 0, 2, 5)), ((0, 0, 1, 1), (1, 0, 0, 1))):
            with self.subTest(one=one, other=other):
                self.assertIs(clash(one, other), False)
                self.assertIs(clash(other, one), False)

    def test_of_what_is_no_order_at_either_argument(self):
        for at, thing in enumerate(no_orders()):
            with self.subTest(at=at):
                with self.assertRaises(BadOrder):
                    clash(thing, (0, 0, 1, 1))
                with self.assertRaises(BadOrder):
                    clash((0, 0, 1, 1), thing)

    def test_the_same_thing_twice_that_is_no_order(self):
        for at, thing in enumerate(no_orders()):
            with self.subTest(at=at), self.assertRaises(BadOrder):
                clash(thing, thing)

    def test_true_is_not_one(self):
        with self.assertRaises(BadOrder):
            clash((0, 0, 1, 1), (0, 0, True, 1))


class TestSummed(unittest.TestCase):
    def test_each_order_takes_and_puts(self):
        self.assertEqual(summed([(0, 0, 1, 3)], [10, 0]), [7, 3])
        self.assertEqual(summed([(0, 0, 1, 3), (1, 0, 2, 2), (2, 0, 0, 1)], [10, 5, 0]), [8, 6, 1])

    def test_in_any_row_the_same_sums(self):
        orders = [(0, 0, 1, 30), (1, 0, 2, 25), (2, 0, 0, 7), (0, 1, 2, 1000)]
        for row in itertools.permutations(orders):
            with self.subTest(row=row):
                self.assertEqual(summed(list(row), [50, 0, 4]), [-973, 5, 1022])

    def test_below_nought_is_allowed(self):
        self.assertEqual(summed([(0, 0, 1, 1000)], [0, 0]), [-1000, 1000])
        self.assertEqual(summed([(1, 5, 0, 1)], [-5, -6]), [-4, -7])

    def test_each_order_counts_whatever_its_number(self):
        self.assertEqual(summed([(0, 7, 1, 1), (0, 7, 1, 1), (0, 7, 1, 2)], [9, 0]), [5, 4])

    def test_nothing_is_lost_or_made(self):
        orders = [(purse, number, (purse + number + 1) % 8, 1 + 37 * number)
                  for purse in range(8) for number in range(7)]
        sums = list(range(0, 800, 100))
        self.assertEqual(sum(summed(orders, sums)), sum(sums))

    def test_no_orders(self):
        self.assertEqual(summed([], [3, 0]), [3, 0])
        self.assertEqual(summed([], [0] * 8), [0] * 8)

    def test_as_many_purses_as_sums(self):
        self.assertEqual(summed([(7, 0, 0, 1)], [0] * 8), [1, 0, 0, 0, 0, 0, 0, -1])
        for purses in range(2, 9):
            with self.subTest(purses=purses):
                self.assertEqual(summed([(purses - 1, 0, 0, 1)], [0] * purses), [1] + [0] * (purses - 2) + [-1])
                with self.assertRaises(BadOrder):
                    summed([(purses, 0, 0, 1)], [0] * purses)
                with self.assertRaises(BadOrder):
                    summed([(0, 0, purses, 1)], [0] * purses)

    def test_sums_somewhat_beyond_the_bounds(self):
        self.assertEqual(summed([(8, 0, 0, 1)], [5000] * 9), [5001] + [5000] * 7 + [4999])
        self.assertEqual(summed([], [4]), [4])
        with self.assertRaises(BadOrder):
            summed([(0, 0, 1, 1)], [4])

    def test_of_what_is_no_list(self):
        for at, thing in enumerate((None, (), ((0, 0, 1, 1),), (0, 0, 1, 1), "", "ab", b"", {}, set(), 0, True,
                                    {(0, 0, 1, 1): True}, {(0, 0, 1, 1)}, object(), range(0), list)):
            with self.subTest(at=at), self.assertRaises(BadOrder):
                summed(thing, [5, 5])

    def test_of_a_list_with_something_that_is_no_order(self):
        for at, thing in enumerate(no_orders()):
            with self.subTest(at=at):
                with self.assertRaises(BadOrder):
                    summed([thing], [5] * 8)
                with self.assertRaises(BadOrder):
                    summed([(0, 0, 1, 1), thing], [5] * 8)
                with self.assertRaises(BadOrder):
                    summed([thing, (0, 0, 1, 1)], [5] * 8)

    def test_the_told_list_is_new_and_nothing_is_changed(self):
        for orders in ([], [(0, 0, 1, 3)], [(0, 0, 1, 3), (1, 0, 0, 3)]):
            sums = [10, 4]
            kept = list(orders)
            told = summed(orders, sums)
            with self.subTest(orders=orders):
                self.assertIs(type(told), list)
                self.assertIsNot(told, sums)
                self.assertIsNot(told, orders)
                told.append(7)
                self.assertEqual(sums, [10, 4])
                self.assertEqual(orders, kept)

    def test_what_is_refused_changes_nothing(self):
        orders, sums = [(0, 0, 1, 3), None], [10, 4]
        with self.assertRaises(BadOrder):
            summed(orders, sums)
        self.assertEqual(orders, [(0, 0, 1, 3), None])
        self.assertEqual(sums, [10, 4])


class TestAreOrders(unittest.TestCase):
    def test_lists_of_orders(self):
        self.assertIs(are_orders([], purses=2), True)
        self.assertIs(are_orders(list(ORDERS), purses=8), True)
        self.assertIs(are_orders(list(ORDERS), purses=7), False)
        self.assertIs(are_orders(ORDERS, purses=8), False)
        self.assertIs(are_orders(None, purses=8), False)


if __name__ == "__main__":
    unittest.main()
