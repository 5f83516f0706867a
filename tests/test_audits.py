"""[12]: orders settled one by one, the row for them, what is left over and what is wanting."""

import copy
import inspect
import itertools
import unittest

from manypurses.audits import is_row, left_over, row_for, wanting
from manypurses.errors import BadHouses, BadOrder, PurseError
from manypurses.orders import summed

from things import OTHER_KINDS, PARTS, Drawn, Play, nested, no_numbers, no_orders, round_list

TELLERS = (row_for, left_over, is_row, wanting)


def refusal(tell, orders, sums):
    try:
        tell(orders, sums=sums)
    except PurseError as why:
        return type(why)
    return None


def can_settle(orders, sums):
    """Whether the orders can be settled in this very row; told anew, without the program."""
    held, numbers = list(sums), [0] * len(sums)
    for purse, number, goal, much in orders:
        if number != numbers[purse] or much > held[purse]:
            return False
        held[purse] -= much
        held[goal] += much
        numbers[purse] += 1
    return True


def all_rows(orders, sums):
    """Every row in which some of the orders can be settled."""
    found = [[]]
    for row in found:
        found += [row + [order] for order in orders if order not in row and can_settle(row + [order], sums)]
    return found


def expected_wanting(orders, row, sums):
    held = summed(row, sums)
    told = {}
    for purse in range(len(sums)):
        number = len([order for order in row if order[0] == purse])
        rest = {order[1]: order for order in orders if order[0] == purse and order not in row}
        if rest:
            told[purse] = (number, rest[number][3] - held[purse] if number in rest else None)
    return told


def drawn_orders(drawn, purses, many):
    """Orders of drawn places, no two of one place."""
    places = {}
    for turn in range(many):
        purse = drawn.below(purses)
        goal = (purse + 1 + drawn.below(purses - 1)) % purses
        places[(purse, drawn.below(3))] = (goal, 1 + drawn.below(9))
    return drawn.mixed([place + rest for place, rest in places.items()])


class TestExamples(unittest.TestCase):
    def check(self, orders, sums, row, left, want):
        for mixed in itertools.permutations(orders):
            with self.subTest(orders=mixed):
                self.assertEqual(row_for(list(mixed), sums=sums), row)
                self.assertEqual(left_over(list(mixed), sums=sums), left)
                self.assertEqual(wanting(list(mixed), sums=sums), want)
                self.assertEqual(list(wanting(list(mixed), sums=sums)), sorted(want))

    def test_no_orders(self):
        self.check([], [0, 0], [], [], {})
        self.assertIs(is_row([], sums=[0, 0]), True)

    def test_one_order_of_just_so_much_and_of_one_more(self):
        self.check([(0, 0, 1, 5)], [5, 0], [(0, 0, 1, 5)], [], {})
        self.check([(0, 0, 1, 6)], [5, 0], [], [(0, 0, 1, 6)], {0: (0, 1)})

    def test_a_purse_s_orders_by_their_numbers(self):
        orders = [(0, 0, 1, 3), (0, 1, 1, 2), (0, 2, 1, 5)]
        self.check(orders, [9, 0], orders[:2], orders[2:], {0: (2, 1)})
        self.check(orders, [10, 0], orders, [], {})

    def test_a_number_left_out(self):
        self.check([(0, 0, 1, 1), (0, 2, 1, 1), (0, 3, 1, 1)], [9, 0], [(0, 0, 1, 1)],
                   [(0, 2, 1, 1), (0, 3, 1, 1)], {0: (1, None)})
        self.check([(1, 99, 0, 1)], [9, 9], [], [(1, 99, 0, 1)], {1: (0, None)})

    def test_enough_only_by_another_order(self):
        self.check([(0, 0, 1, 5), (1, 0, 2, 5), (2, 0, 0, 5)], [0, 0, 5],
                   [(2, 0, 0, 5), (0, 0, 1, 5), (1, 0, 2, 5)], [], {})
        self.check([(0, 0, 1, 7), (1, 0, 0, 3)], [4, 3], [(1, 0, 0, 3), (0, 0, 1, 7)], [], {})

    def test_two_purses_that_wait_for_each_other(self):
        self.check([(0, 0, 1, 5), (1, 0, 0, 7)], [4, 4], [], [(0, 0, 1, 5), (1, 0, 0, 7)], {0: (0, 1), 1: (0, 3)})

    def test_the_least_at_each_step(self):
        self.check([(0, 0, 1, 1), (0, 1, 1, 1), (1, 0, 0, 1), (2, 0, 0, 1)], [2, 2, 2],
                   [(0, 0, 1, 1), (0, 1, 1, 1), (1, 0, 0, 1), (2, 0, 0, 1)], [], {})
        # Purse 2's can be settled from the second step on, but each time a lesser one has become so, too.
        self.check([(0, 0, 2, 1), (0, 1, 1, 1), (1, 0, 0, 1), (2, 0, 1, 1), (1, 1, 0, 1)], [1, 1, 0],
                   [(0, 0, 2, 1), (1, 0, 0, 1), (0, 1, 1, 1), (1, 1, 0, 1), (2, 0, 1, 1)], [], {})

    def test_a_lack_after_what_was_brought(self):
        self.check([(1, 0, 0, 4), (0, 0, 1, 9), (0, 1, 1, 1)], [2, 4], [(1, 0, 0, 4)],
                   [(0, 0, 1, 9), (0, 1, 1, 1)], {0: (0, 3)})

    def test_purses_with_nothing_left_over_are_not_told(self):
        self.check([(0, 0, 1, 1), (2, 0, 1, 1000), (3, 1, 1, 1)], [1, 0, 0, 0], [(0, 0, 1, 1)],
                   [(2, 0, 1, 1000), (3, 1, 1, 1)], {2: (0, 1000), 3: (0, None)})

    def test_sums_beyond_a_thousand_on_the_way(self):
        orders = [(purse, 0, 0, 1000) for purse in range(1, 6)]
        row = orders + [(0, 0, 1, 1000)]
        self.assertEqual(row_for(row, sums=[0] + [1000] * 5), [orders[0], row[5]] + orders[1:])
        self.assertEqual(wanting([(0, 0, 1, 1000)], sums=[0, 0]), {0: (0, 1000)})

    def test_as_many_orders_as_there_can_be(self):
        orders = [(purse, number, (purse + 1) % 8, 10) for purse in range(8) for number in range(100)]
        row = row_for(orders[::-1], sums=[1000] * 8)
        self.assertEqual(row, orders)
        self.assertIs(is_row(row, sums=[1000] * 8), True)
        self.assertEqual(left_over(orders[::-1], sums=[0] * 8), orders)
        self.assertEqual(wanting(orders, sums=[9] * 8), {purse: (0, 1) for purse in range(8)})
        some = row_for(orders, sums=[10] + [0] * 7)
        self.assertEqual(some[:9], [(purse % 8, purse // 8, (purse + 1) % 8, 10) for purse in range(9)])
        self.assertEqual(len(some), 800)


class TestIsRow(unittest.TestCase):
    def test_just_in_this_row(self):
        row = [(2, 0, 0, 5), (0, 0, 1, 5), (1, 0, 2, 5)]
        for mixed in itertools.permutations(row):
            with self.subTest(mixed=mixed):
                self.assertIs(is_row(list(mixed), sums=[0, 0, 5]), list(mixed) == row)

    def test_a_row_need_not_be_the_least(self):
        orders = [(0, 0, 1, 1), (1, 0, 0, 1)]
        self.assertIs(is_row(orders, sums=[1, 1]), True)
        self.assertIs(is_row(orders[::-1], sums=[1, 1]), True)

    def test_numbers_that_do_not_follow(self):
        self.assertIs(is_row([(0, 0, 1, 1), (0, 1, 1, 1)], sums=[2, 0]), True)
        self.assertIs(is_row([(0, 1, 1, 1), (0, 0, 1, 1)], sums=[2, 0]), False)
        self.assertIs(is_row([(0, 0, 1, 1), (0, 2, 1, 1)], sums=[2, 0]), False)
        self.assertIs(is_row([(0, 1, 1, 1)], sums=[2, 0]), False)
        self.assertIs(is_row([(0, 0, 1, 1), (0, 1, 1, 1)], sums=[1, 0]), False)

    def test_it_is_refused_though_the_row_broke_ahead(self):
        self.assertEqual(refusal(is_row, [(0, 5, 1, 1), (1, 0, 0, 1), (1, 0, 0, 1)], [5, 5]), BadOrder)
        self.assertEqual(refusal(is_row, [(0, 5, 1, 1), None], [5, 5]), BadOrder)


class TestAgainstAllRows(unittest.TestCase):
    def test_drawn_orders(self):
        left_told = 0
        for seed in range(250):
            drawn = Drawn(seed)
            purses = 2 + drawn.below(3)
            sums = [drawn.below(9) for purse in range(purses)]
            orders = drawn_orders(drawn, purses, 6)
            rows = all_rows(orders, sums)
            most = max(len(row) for row in rows)
            row = row_for(orders, sums=sums)
            with self.subTest(seed=seed):
                # The least of those next at each step is the least of the longest rows.
                self.assertEqual(row, min(each for each in rows if len(each) == most))
                self.assertIs(is_row(row, sums=sums), True)
                ever = {order for each in rows for order in each}
                self.assertEqual(left_over(orders, sums=sums), sorted(set(orders) - ever))
                self.assertEqual(wanting(orders, sums=sums), expected_wanting(orders, row, sums))
                for each in rows:
                    self.assertIs(is_row(each, sums=sums), True)
                for mixed in itertools.islice(itertools.permutations(orders), 0, None, 7):
                    self.assertIs(is_row(list(mixed), sums=sums), list(mixed) in rows)
            left_told += bool(left_over(orders, sums=sums))
        self.assertGreater(left_told, 50)


class TestRefusals(unittest.TestCase):
    def test_two_to_eight_sums(self):
        for tell in TELLERS:
            for many in range(12):
                with self.subTest(tell=tell.__name__, many=many):
                    self.assertEqual(refusal(tell, [], [5] * many), None if 2 <= many <= 8 else BadHouses)

    def test_sums_from_nought_to_a_thousand(self):
        for tell in TELLERS:
            self.assertIsNone(refusal(tell, [], [0, 1000]))
            for at, thing in enumerate(no_numbers(0, 1000)):
                with self.subTest(tell=tell.__name__, at=at):
                    self.assertEqual(refusal(tell, [], [thing, 5]), BadHouses)
                    self.assertEqual(refusal(tell, [(0, 0, 1, 1)], [5, 5, thing]), BadHouses)

    def test_what_is_no_list_of_sums(self):
        for tell in TELLERS:
            for at, thing in enumerate((None, True, 5, "", "55", b"55", (), (5, 5), {}, {0: 5, 1: 5}, {5, 6}, range(3),
                                        object(), list, nested(3), round_list())):
                with self.subTest(tell=tell.__name__, at=at):
                    self.assertEqual(refusal(tell, [], thing), BadHouses)

    def test_what_is_no_list_of_orders(self):
        others = [thing for thing in OTHER_KINDS + PARTS if thing not in ([], [(0, 0, 1, 1)])]
        for tell in TELLERS:
            for at, thing in enumerate(others + [((0, 0, 1, 1),), (), {(0, 0, 1, 1)}, [[0, 0, 1, 1]]]):
                with self.subTest(tell=tell.__name__, at=at):
                    self.assertEqual(refusal(tell, thing, [5, 5]), BadOrder)

    def test_what_is_no_order_among_them(self):
        for tell in TELLERS:
            for at, thing in enumerate(no_orders()):
                with self.subTest(tell=tell.__name__, at=at):
                    self.assertEqual(refusal(tell, [thing], [5] * 8), BadOrder)
                    self.assertEqual(refusal(tell, [(0, 0, 1, 1), thing], [5] * 8), BadOrder)
                    self.assertEqual(refusal(tell, [thing, (0, 0, 1, 1)], [5] * 8), BadOrder)

    def test_orders_of_more_purses_than_there_are_sums(self):
        for tell in TELLERS:
            for many in range(2, 9):
                with self.subTest(tell=tell.__name__, many=many):
                    self.assertIsNone(refusal(tell, [(many - 1, 0, 0, 1), (0, 0, many - 1, 1)], [5] * many))
                    self.assertEqual(refusal(tell, [(many, 0, 0, 1)], [5] * many), BadOrder)
                    self.assertEqual(refusal(tell, [(0, 0, many, 1)], [5] * many), BadOrder)

    def test_two_of_one_place(self):
        for tell in TELLERS:
            for other in ((0, 0, 1, 1), (0, 0, 1, 2), (0, 0, 2, 1)):
                for orders in ([(0, 0, 1, 1), other], [other, (0, 0, 1, 1)], [(0, 0, 1, 1), (1, 0, 0, 1), other]):
                    with self.subTest(tell=tell.__name__, orders=orders):
                        self.assertEqual(refusal(tell, orders, [5, 5, 5]), BadOrder)
            self.assertIsNone(refusal(tell, [(0, 0, 1, 1), (0, 1, 1, 1), (1, 0, 0, 1)], [5, 5, 5]))

    def test_no_sums_are_told_ahead_of_no_orders(self):
        for tell in TELLERS:
            for sums in (None, [5], [5] * 9, (5, 5), [5, True], [5, 1001]):
                for orders in (None, [None], [(0, 0, 1, 1), (0, 0, 1, 1)], [(8, 0, 1, 1)], ()):
                    with self.subTest(tell=tell.__name__, sums=sums, orders=orders):
                        self.assertEqual(refusal(tell, orders, sums), BadHouses)

    def test_sums_are_handed_in_by_their_name_alone(self):
        for tell in TELLERS:
            with self.assertRaises(TypeError):
                tell([], [5, 5])
            with self.assertRaises(TypeError):
                tell([])
            self.assertEqual(list(inspect.signature(tell).parameters)[1:], ["sums"])


class TestNothingIsChanged(unittest.TestCase):
    def test_lists_that_are_handed_in(self):
        orders = [(1, 0, 0, 9), (0, 1, 1, 2), (0, 0, 1, 3), (2, 0, 0, 5)]
        sums = [9, 0, 2]
        before = copy.deepcopy((orders, sums))
        for tell in TELLERS:
            tell(orders, sums=sums)
            self.assertEqual((orders, sums), before)
            with self.assertRaises(BadOrder):
                tell(orders + orders[:1], sums=sums)
            self.assertEqual((orders, sums), before)

    def test_what_is_told_is_new(self):
        for orders in ([], [(0, 0, 1, 3)], [(0, 0, 1, 3), (1, 0, 0, 90), (0, 5, 1, 1)]):
            for tell in (row_for, left_over, wanting):
                told = tell(orders, sums=[9, 9])
                again = copy.deepcopy(told)
                self.assertIs(type(told), dict if tell is wanting else list)
                self.assertIsNot(told, orders)
                told.clear()
                self.assertEqual(tell(orders, sums=[9, 9]), again)

    def test_what_is_wanting_is_a_tuple(self):
        for pair in wanting([(0, 0, 1, 9), (1, 3, 0, 1)], sums=[0, 0]).values():
            self.assertIs(type(pair), tuple)


class TestWithWorlds(unittest.TestCase):
    def check_houses(self, play):
        """What a house settled is a row, and just what can be settled of the papers that came there."""
        for house in play.world.honest():
            settled = play.world.settled(house)
            taken = play.taken[house]
            self.assertIs(is_row(settled, sums=play.sums), True)
            self.assertEqual(sorted(row_for(taken, sums=play.sums)), sorted(settled))
            self.assertEqual(left_over(taken, sums=play.sums), play.world.waits(house))
            self.assertEqual(summed(row_for(taken, sums=play.sums), play.sums), play.world.sums(house))

    def test_every_honest_house_at_each_step_and_with_all_letters(self):
        settled = waited = 0
        for seed in range(48):
            play = Play(seed)
            with self.subTest(seed=seed):
                for turn in range(100):
                    play.step()
                    self.check_houses(play)
                    waited += sum(len(play.world.waits(house)) for house in play.world.honest())
                play.end()
                self.check_houses(play)
                papers = play.world.papers()
                for house in play.world.honest():
                    self.assertEqual(sorted(row_for(papers, sums=play.sums)), sorted(play.world.settled(house)))
                    self.assertEqual(left_over(papers, sums=play.sums), play.world.waits(house))
            settled += len(papers)
        # The rule draws worlds in which papers come, some of them ahead of their turn.
        self.assertGreater(settled, 200)
        self.assertGreater(waited, 50)


if __name__ == "__main__":
    unittest.main()
