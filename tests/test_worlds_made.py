"""[1], [3] and [6]: how a world is made, what it refuses, and that it keeps copies and tells new lists."""

import inspect
import unittest

from manypurses.errors import BadHouses, BadNumber, PurseError
from manypurses.worlds import World

from things import ask_through, inner, nested, no_numbers, no_rows, round_list

SUMS = [10, 0, 5]


def refusal(houses=7, **given):
    """The class by which a world is refused, or None."""
    given = {"few": 2, "sums": list(SUMS), **given}
    try:
        World(houses, **given)
    except PurseError as why:
        return type(why)
    return None


class TestNumbers(unittest.TestCase):
    def test_every_pair_of_houses_and_few(self):
        for houses in range(-2, 20):
            for few in range(-2, 8):
                told = None
                if not 1 <= houses <= 16 or not 0 <= few <= 5:
                    told = BadNumber
                elif houses <= 3 * few:
                    told = BadHouses
                with self.subTest(houses=houses, few=few):
                    self.assertEqual(refusal(houses, few=few), told)

    def test_other_kinds(self):
        for at, thing in enumerate(no_numbers(1, 16)):
            with self.subTest(at=at):
                self.assertEqual(refusal(thing), BadNumber)
        for at, thing in enumerate(no_numbers(0, 5)):
            with self.subTest(at=at):
                self.assertEqual(refusal(few=thing), BadNumber)

    def test_true_and_false_are_no_numbers(self):
        self.assertEqual(refusal(True, few=0), BadNumber)
        self.assertEqual(refusal(4, few=True), BadNumber)
        self.assertEqual(refusal(4, few=False), BadNumber)

    def test_of_several_faults_the_first_named_is_told(self):
        for houses, few in ((0, 0), (17, 0), (4, 6), (4, -1), (None, None), (4, None), (None, 1), ([], {})):
            for wrong in ({"sums": None}, {"liars": None}, {"cheats": None}, {"liars": [9, 9], "cheats": [9, 9]},
                          {"sums": (), "liars": "", "cheats": ""}):
                with self.subTest(houses=houses, few=few, wrong=wrong):
                    self.assertEqual(refusal(houses, few=few, **wrong), BadNumber)
        self.assertEqual(refusal(3, few=1, sums=None, liars=None, cheats=None), BadHouses)


class TestLiars(unittest.TestCase):
    def test_lists_and_tuples_of_few_at_most(self):
        for liars in ((), [], (0,), [6], (0, 6), [3, 4]):
            with self.subTest(liars=liars):
                world = World(7, few=2, sums=SUMS, liars=liars)
                self.assertEqual(world.honest(), [house for house in range(7) if house not in liars])

    def test_one_more_than_few(self):
        for houses, few in ((1, 0), (4, 1), (7, 2), (10, 3), (13, 4), (16, 5)):
            with self.subTest(houses=houses, few=few):
                self.assertIsNone(refusal(houses, few=few, liars=list(range(few))))
                self.assertIsNone(refusal(houses, few=few, liars=tuple(range(houses - few, houses))))
                self.assertEqual(refusal(houses, few=few, liars=list(range(few + 1))), BadHouses)

    def test_what_is_no_row_of_houses(self):
        for at, liars in enumerate(no_rows(7)):
            with self.subTest(at=at):
                self.assertEqual(refusal(liars=liars), BadHouses)


class TestSums(unittest.TestCase):
    def test_two_to_eight_sums(self):
        for many in range(12):
            with self.subTest(many=many):
                self.assertEqual(refusal(sums=[5] * many), None if 2 <= many <= 8 else BadHouses)

    def test_nought_to_a_thousand(self):
        self.assertIsNone(refusal(sums=[0, 1000]))
        self.assertIsNone(refusal(sums=[0] * 8))
        self.assertIsNone(refusal(sums=[1000] * 8))
        for at, thing in enumerate(no_numbers(0, 1000)):
            with self.subTest(at=at):
                self.assertEqual(refusal(sums=[thing, 5]), BadHouses)
                self.assertEqual(refusal(sums=[5, 5, thing]), BadHouses)

    def test_what_is_no_list(self):
        for at, thing in enumerate((None, True, 5, "", "55", b"55", (), (5, 5), {}, {0: 5, 1: 5}, {5, 6}, range(3),
                                    object(), list, nested(3), round_list())):
            with self.subTest(at=at):
                self.assertEqual(refusal(sums=thing), BadHouses)


class TestCheats(unittest.TestCase):
    def test_any_of_the_purses_and_all(self):
        for cheats in ((), [], (0,), [2], (0, 2), [0, 1, 2]):
            with self.subTest(cheats=cheats):
                self.assertIsNone(refusal(cheats=cheats))

    def test_what_is_no_row_of_purses(self):
        for at, cheats in enumerate(no_rows(3)):
            with self.subTest(at=at):
                self.assertEqual(refusal(cheats=cheats), BadHouses)

    def test_by_the_number_of_sums(self):
        for many in range(2, 9):
            with self.subTest(many=many):
                self.assertIsNone(refusal(sums=[0] * many, cheats=[many - 1]))
                self.assertEqual(refusal(sums=[0] * many, cheats=[many]), BadHouses)


class TestForm(unittest.TestCase):
    def test_all_but_houses_are_handed_in_by_their_names(self):
        with self.assertRaises(TypeError):
            World(4, 1, SUMS)
        with self.assertRaises(TypeError):
            World(4, few=1)
        with self.assertRaises(TypeError):
            World(4, sums=SUMS)
        given = inspect.signature(World).parameters
        self.assertEqual(list(given)[1:], ["few", "sums", "liars", "cheats"])
        self.assertEqual((given["liars"].default, given["cheats"].default), ((), ()))

    def test_a_new_world(self):
        world = World(4, few=1, sums=SUMS, liars=[2], cheats=(1,))
        self.assertEqual(world.honest(), [0, 1, 3])
        self.assertEqual(world.letters(), [])
        self.assertEqual(world.papers(), [])
        self.assertIs(world.is_still(), True)
        for house in world.honest():
            self.assertEqual(world.sums(house), SUMS)
            self.assertEqual(world.settled(house), [])
            self.assertEqual(world.waits(house), [])
            for purse in range(3):
                self.assertIsNone(world.voted(house, purse, 0))
        self.assertEqual([world.next_number(purse) for purse in range(3)], [0, 0, 0])
        self.assertEqual(world.votes_for((0, 0, 1, 1)), [])


class TestCopies(unittest.TestCase):
    def test_lists_that_were_handed_in_and_are_changed_behind(self):
        sums, liars, cheats = [10, 0, 5], [3], [2]
        world = World(4, few=1, sums=sums, liars=liars, cheats=cheats)
        before = inner(world)
        for thing in (sums, liars, cheats):
            thing[0] = 1
            thing.append(0)
        self.assertEqual(inner(world), before)
        sums.clear()
        liars.clear()
        cheats.clear()
        self.assertEqual(inner(world), before)
        self.assertEqual(world.honest(), [0, 1, 2])
        self.assertEqual(world.sums(0), [10, 0, 5])

    def test_what_is_handed_in_is_not_changed(self):
        sums, liars, cheats = [10, 0, 5], [3], [2]
        world = World(4, few=1, sums=sums, liars=liars, cheats=cheats)
        ask_through(world, 0, 1, 4)
        world.cheat((2, 0, 1, 1), 0)
        self.assertEqual((sums, liars, cheats), ([10, 0, 5], [3], [2]))

    def test_houses_do_not_share_what_they_keep(self):
        world = World(4, few=1, sums=[10, 0, 5])
        order = world.ask(0, 1, 4)
        for house in (0, 1, 2):
            world.come(0)
        world.come(world.letters().index(("paper", 1, order)))
        self.assertEqual([world.sums(house) for house in range(4)], [[10, 0, 5], [6, 4, 5], [10, 0, 5], [10, 0, 5]])

    def test_lists_that_are_told_and_are_changed_behind(self):
        world = World(4, few=1, sums=[10, 0, 5])
        ask_through(world, 0, 1, 4)
        world.ask(0, 1, 1)
        before = inner(world)
        for tell in (world.honest, world.letters, world.papers, lambda: world.sums(0), lambda: world.settled(0),
                     lambda: world.waits(0), lambda: world.votes_for((0, 0, 1, 4)),
                     lambda: world.votes_for((1, 0, 0, 9))):
            told = tell()
            self.assertIs(type(told), list)
            again = list(told)
            told.append(7)
            told.reverse()
            self.assertEqual(inner(world), before)
            self.assertEqual(tell(), again)
            told.clear()
            self.assertEqual(tell(), again)
        self.assertEqual(inner(world), before)

    def test_the_list_of_waiting_papers_is_a_new_one(self):
        world = World(4, few=1, sums=[10, 0, 5])
        first = world.ask(0, 1, 4)
        for house in range(4):
            world.come(0)
        for house in (0, 1, 2):
            world.come(0)
        second = world.ask(0, 1, 4)
        for house in (0, 1, 2):
            world.come(world.letters().index(("order", house, second)))
        world.come(world.letters().index(("paper", 3, second)))
        self.assertEqual(world.waits(3), [second])
        world.waits(3).clear()
        self.assertEqual(world.waits(3), [second])
        world.come(world.letters().index(("paper", 3, first)))
        self.assertEqual(world.settled(3), [first, second])


if __name__ == "__main__":
    unittest.main()
