"""[3]: the numbers of houses and few, enough, and what two papers have in common."""

import itertools
import unittest

from manypurses.houses import enough_of, is_few, is_house_count, outnumber
from manypurses.orders import in_common
from manypurses.wholes import is_between, is_whole

NO_NUMBERS = (True, False, None, "1", b"1", [1], (1,), {1: 1}, {1}, object(), int)


def fitting():
    return [(houses, few) for houses in range(1, 17) for few in range(6) if houses > 3 * few]


def least_shared(houses, many):
    everyone = range(houses)
    return min(len(set(one) & set(other))
               for one in itertools.combinations(everyone, many)
               for other in itertools.combinations(everyone, many))


class TestWholes(unittest.TestCase):
    def test_whole_numbers(self):
        for thing in (0, 1, -1, 10 ** 30):
            self.assertIs(is_whole(thing), True)

    def test_other_kinds_are_no_whole_numbers(self):
        for thing in NO_NUMBERS:
            with self.subTest(thing=thing):
                self.assertIs(is_whole(thing), False)
                self.assertIs(is_between(thing, 0, 9), False)

    def test_between_counts_both_ends(self):
        self.assertEqual([at for at in range(-3, 9) if is_between(at, 0, 5)], [0, 1, 2, 3, 4, 5])


class TestHouses(unittest.TestCase):
    def test_one_to_sixteen_houses(self):
        self.assertEqual([at for at in range(-3, 30) if is_house_count(at)], list(range(1, 17)))

    def test_few_is_nought_to_five(self):
        self.assertEqual([at for at in range(-3, 30) if is_few(at)], list(range(6)))

    def test_other_kinds_are_no_numbers_of_houses(self):
        for thing in NO_NUMBERS:
            with self.subTest(thing=thing):
                self.assertIs(is_house_count(thing), False)
                self.assertIs(is_few(thing), False)

    def test_more_than_three_times_few(self):
        for houses, few in ((1, 0), (4, 1), (7, 2), (10, 3), (13, 4), (16, 5), (16, 0)):
            self.assertIs(outnumber(houses, few=few), True)
        for houses, few in ((0, 0), (3, 1), (6, 2), (9, 3), (12, 4), (15, 5), (1, 5)):
            self.assertIs(outnumber(houses, few=few), False)

    def test_enough_are_all_but_few(self):
        self.assertEqual(enough_of(1, few=0), 1)
        self.assertEqual(enough_of(4, few=1), 3)
        self.assertEqual(enough_of(16, few=5), 11)
        self.assertEqual(enough_of(16, few=0), 16)


class TestInCommon(unittest.TestCase):
    def test_the_pair(self):
        told = {(1, 0): (1, 1), (2, 0): (2, 2), (4, 0): (4, 4), (4, 1): (2, 1), (5, 1): (3, 2),
                (7, 2): (3, 1), (10, 3): (4, 1), (13, 4): (5, 1), (16, 5): (6, 1),
                (16, 1): (14, 13), (16, 0): (16, 16)}
        for (houses, few), pair in told.items():
            with self.subTest(houses=houses, few=few):
                self.assertEqual(in_common(houses, few=few), pair)
                self.assertIsInstance(in_common(houses, few=few), tuple)

    def test_two_papers_can_share_no_less(self):
        for houses, few in fitting():
            if houses <= 8:
                with self.subTest(houses=houses, few=few):
                    self.assertEqual(in_common(houses, few=few)[0], least_shared(houses, houses - few))

    def test_one_shared_signer_is_honest_wherever_houses_outnumber(self):
        for houses, few in fitting():
            with self.subTest(houses=houses, few=few):
                self.assertGreaterEqual(in_common(houses, few=few)[1], 1)

    def test_somewhat_beyond_the_bounds_it_is_reckoned_alike(self):
        self.assertEqual(in_common(17, few=0), (17, 17))
        self.assertEqual(in_common(19, few=6), (7, 1))
        self.assertEqual(in_common(3, few=1), (1, 0))
        self.assertEqual(in_common(3, few=2), (-1, -3))
        self.assertEqual(in_common(0, few=0), (0, 0))

    def test_few_is_handed_in_by_its_name_alone(self):
        with self.assertRaises(TypeError):
            in_common(4, 1)
        with self.assertRaises(TypeError):
            in_common(4)


if __name__ == "__main__":
    unittest.main()
