"""[3]: papers, and the board on which signatures stand."""

import copy
import inspect
import itertools
import unittest

from manypurses.boards import Board, checked
from manypurses.wholes import are_rising

from things import OTHER_KINDS, PARTS, no_orders, no_wholes

ORDER = (0, 0, 1, 5)


def fitting():
    return [(houses, few) for houses in range(1, 17) for few in range(6) if houses > 3 * few]


class TestChecked(unittest.TestCase):
    def test_enough_signers_one_less_and_all(self):
        for houses, few in fitting():
            enough = houses - few
            with self.subTest(houses=houses, few=few):
                self.assertIs(checked((ORDER, tuple(range(enough))), houses=houses, few=few), True)
                self.assertIs(checked((ORDER, tuple(range(few, houses))), houses=houses, few=few), True)
                self.assertIs(checked((ORDER, tuple(range(houses))), houses=houses, few=few), True)
                self.assertIs(checked((ORDER, tuple(range(enough - 1))), houses=houses, few=few), False)
                self.assertIs(checked((ORDER, tuple(range(houses + 1))), houses=houses, few=few), False)
                self.assertIs(checked((ORDER, tuple(range(-1, houses))), houses=houses, few=few), False)

    def test_every_row_of_signers_of_four_houses(self):
        for many in range(6):
            for signers in itertools.product(range(-1, 5), repeat=many):
                there = len(signers) >= 3 and list(signers) == sorted(set(signers) & {0, 1, 2, 3})
                with self.subTest(signers=signers):
                    self.assertIs(checked((ORDER, signers), houses=4, few=1), there)

    def test_a_house_that_is_none(self):
        for signers in ((0, 1, 4), (-1, 0, 1), (-1, 0, 1, 2), (1, 2, 3, 4), (0, 1, 10 ** 40)):
            with self.subTest(signers=signers):
                self.assertIs(checked((ORDER, signers), houses=4, few=1), False)

    def test_true_and_false_are_no_houses(self):
        for signers in ((0, True, 2), (False, 1, 2), (0, True, 2, 3), (False, True, 2, 3), (True, 2, 3)):
            with self.subTest(signers=signers):
                self.assertIs(checked((ORDER, signers), houses=4, few=1), False)

    def test_other_kinds_among_the_signers(self):
        for at, part in enumerate(no_wholes()):
            for place in range(3):
                signers = (0, 1, 2)[:place] + (part,) + (0, 1, 2)[place + 1:]
                with self.subTest(at=at, place=place):
                    self.assertIs(checked((ORDER, signers), houses=4, few=1), False)

    def test_other_kinds_in_place_of_the_signers(self):
        for at, signers in enumerate(OTHER_KINDS + PARTS + ([0, 1, 2], {0: 0, 1: 1, 2: 2}, range(3), b"\x00\x01\x02")):
            with self.subTest(at=at):
                self.assertIs(checked((ORDER, signers), houses=4, few=1), False)

    def test_no_pair(self):
        signers = (0, 1, 2)
        for at, thing in enumerate(([ORDER, signers], [ORDER, [0, 1, 2]], (ORDER, [0, 1, 2]), (ORDER,),
                                    (ORDER, signers, ()), (signers, ORDER), ORDER, signers, (), {ORDER: signers},
                                    (ORDER, ORDER), ((ORDER, signers),), (list(ORDER), signers), (None, signers),
                                    (ORDER, None))):
            with self.subTest(at=at):
                self.assertIs(checked(thing, houses=4, few=1), False)

    def test_things_of_other_kinds(self):
        for at, thing in enumerate(OTHER_KINDS + PARTS):
            with self.subTest(at=at):
                self.assertIs(checked(thing, houses=4, few=1), False)
                self.assertIs(checked(thing, houses=2, few=0, purses=2), False)

    def test_no_order(self):
        for at, thing in enumerate(no_orders()):
            with self.subTest(at=at):
                self.assertIs(checked((thing, (0, 1, 2)), houses=4, few=1), False)

    def test_an_order_of_more_purses_than_there_are(self):
        for purses in range(2, 9):
            with self.subTest(purses=purses):
                for order in ((purses - 1, 0, 0, 1), (0, 0, purses - 1, 1)):
                    self.assertIs(checked((order, (0,)), houses=1, few=0, purses=purses), True)
                for order in ((purses, 0, 0, 1), (0, 0, purses, 1)):
                    self.assertIs(checked((order, (0,)), houses=1, few=0, purses=purses), False)

    def test_eight_purses_when_left_out(self):
        self.assertIs(checked(((7, 0, 6, 1), (0,)), houses=1, few=0), True)
        self.assertIs(checked(((8, 0, 6, 1), (0,)), houses=1, few=0), False)
        self.assertEqual(inspect.signature(checked).parameters["purses"].default, 8)

    def test_houses_few_and_purses_are_handed_in_by_their_names(self):
        for extra in ((4,), (4, 1), (4, 1, 8)):
            with self.assertRaises(TypeError):
                checked((ORDER, (0, 1, 2)), *extra)
        with self.assertRaises(TypeError):
            checked((ORDER, (0, 1, 2)), houses=4)
        with self.assertRaises(TypeError):
            checked((ORDER, (0, 1, 2)), few=1)

    def test_somewhat_beyond_the_bounds(self):
        self.assertIs(checked((ORDER, tuple(range(17))), houses=17, few=0), True)
        self.assertIs(checked((ORDER, tuple(range(13))), houses=19, few=6), True)
        self.assertIs(checked((ORDER, tuple(range(12))), houses=19, few=6), False)
        self.assertIs(checked((ORDER, (0, 1)), houses=3, few=1), True)

    def test_what_is_handed_in_is_not_changed(self):
        paper = ([0, 0, 1, 5], [0, 1, 2])
        before = copy.deepcopy(paper)
        checked(paper, houses=4, few=1)
        checked((ORDER, paper[1]), houses=4, few=1)
        self.assertEqual(paper, before)


class TestRising(unittest.TestCase):
    def test_every_short_row(self):
        for many in range(4):
            for row in itertools.product(range(-1, 4), repeat=many):
                there = list(row) == sorted(set(row) & {0, 1, 2})
                with self.subTest(row=row):
                    self.assertIs(are_rising(row, 3), there)
                    self.assertIs(are_rising(list(row), 3), there)


class TestBoard(unittest.TestCase):
    def test_it_tells_by_which_signature_enough_have_signed(self):
        board = Board(2)
        self.assertEqual([board.put(house, ORDER) for house in (3, 3, 0, 0, 1, 3)],
                         [False, False, True, False, False, False])
        self.assertEqual(board.houses_for(ORDER), [0, 1, 3])

    def test_things_stand_apart(self):
        board = Board(2)
        other = (0, 0, 1, 6)
        for house, thing in ((0, other), (1, ORDER), (0, ORDER)):
            board.put(house, thing)
        self.assertEqual(board.carried(), [ORDER])
        self.assertIs(board.is_carried(other), False)
        self.assertEqual(board.things_of(0), [other, ORDER])
        self.assertEqual(board.things_of(1), [ORDER])
        self.assertEqual(board.houses_for((5, 5, 5, 5)), [])


if __name__ == "__main__":
    unittest.main()
