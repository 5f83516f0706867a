"""[13]: joint purses: who signs what, ready orders, sure purses, two-faced owners."""

import inspect
import itertools
import unittest

from manypurses.errors import BadHouses, BadOrder, NoPurse, NotNow, PurseError
from manypurses.joints import Joint

from things import ORDERS, Drawn, inner, no_numbers, no_orders, no_rows, no_wholes, round_list

ONE = (2, 0, 1, 5)
OTHER = (2, 0, 1, 6)
LATER = (2, 1, 1, 6)


def joint(purse=2, **given):
    return Joint(purse, **{"owners": 3, "need": 2, **given})


def refusal(purse=2, **given):
    """The class by which a joint purse is refused, or None."""
    try:
        joint(purse, **given)
    except PurseError as why:
        return type(why)
    return None


def shapes():
    """Every joint purse: the numbers of owners and of those that must sign, and the cheats."""
    for owners in range(1, 7):
        for need in range(1, owners + 1):
            for many in range(owners + 1):
                for cheats in itertools.combinations(range(owners), many):
                    yield owners, need, cheats


class TestMade(unittest.TestCase):
    def test_purses_from_nought_to_seven(self):
        for purse in range(-3, 12):
            with self.subTest(purse=purse):
                self.assertEqual(refusal(purse), None if 0 <= purse <= 7 else NoPurse)

    def test_no_purse_tells_what_was_handed_in(self):
        for at, thing in enumerate(no_numbers(0, 7)):
            with self.subTest(at=at):
                with self.assertRaises(NoPurse) as caught:
                    joint(thing)
                self.assertIs(caught.exception.purse, thing)

    def test_every_pair_of_owners_and_need(self):
        for owners in range(-2, 10):
            for need in range(-2, 11):
                fits = 1 <= owners <= 6 and 1 <= need <= owners
                with self.subTest(owners=owners, need=need):
                    self.assertEqual(refusal(owners=owners, need=need), None if fits else BadHouses)

    def test_owners_and_need_of_other_kinds(self):
        for at, thing in enumerate(no_wholes() + [10 ** 40, -10 ** 40]):
            with self.subTest(at=at):
                self.assertEqual(refusal(owners=thing), BadHouses)
                self.assertEqual(refusal(need=thing), BadHouses)
                self.assertEqual(refusal(owners=thing, need=thing), BadHouses)
                self.assertEqual(refusal(owners=1, need=thing), BadHouses)

    def test_cheats_as_a_list_and_as_a_tuple(self):
        for owners, need, cheats in shapes():
            with self.subTest(owners=owners, cheats=cheats):
                self.assertIsNone(refusal(owners=owners, need=need, cheats=cheats))
                self.assertIsNone(refusal(owners=owners, need=need, cheats=list(cheats)))

    def test_cheats_that_are_no_row_of_owners(self):
        for owners in (1, 2, 6):
            for at, cheats in enumerate(no_rows(owners)):
                with self.subTest(owners=owners, at=at):
                    self.assertEqual(refusal(owners=owners, need=1, cheats=cheats), BadHouses)

    def test_of_several_faults_the_first_named_is_told(self):
        for purse, owners, need, cheats in itertools.product((8, -1, None, True), (3, 0, 7, None), (2, 0, 4, None),
                                                             ((), [3], None, [1, 0])):
            with self.subTest(purse=purse, owners=owners, need=need, cheats=cheats):
                self.assertEqual(refusal(purse, owners=owners, need=need, cheats=cheats), NoPurse)
        for owners, need, cheats in itertools.product((0, 7, None, []), (2, 0, None), ((), [9], None)):
            self.assertEqual(refusal(owners=owners, need=need, cheats=cheats), BadHouses)

    def test_all_but_the_purse_are_handed_in_by_their_names(self):
        with self.assertRaises(TypeError):
            Joint(2, 3, 2)
        with self.assertRaises(TypeError):
            Joint(2, owners=3)
        with self.assertRaises(TypeError):
            Joint(2, need=3)
        given = inspect.signature(Joint).parameters
        self.assertEqual(list(given)[1:], ["owners", "need", "cheats"])
        self.assertEqual(given["cheats"].default, ())

    def test_a_new_joint_purse(self):
        purse = joint()
        self.assertEqual((purse.ready(), purse.two_faced(), purse.signed(ONE)), ([], [], []))

    def test_cheats_that_are_changed_behind(self):
        cheats = [0, 2]
        purse = joint(cheats=cheats)
        before = inner(purse)
        self.assertEqual(cheats, [0, 2])
        cheats.append(1)
        cheats[0] = 1
        self.assertEqual(inner(purse), before)
        cheats.clear()
        for order in (ONE, OTHER):
            purse.sign(0, order)
        self.assertEqual(purse.two_faced(), [0])
        purse.sign(1, ONE)
        with self.assertRaises(NotNow):
            purse.sign(1, OTHER)


class TestSign(unittest.TestCase):
    def test_whether_enough_have_signed(self):
        for owners in range(1, 7):
            for need in range(1, owners + 1):
                purse = joint(owners=owners, need=need)
                with self.subTest(owners=owners, need=need):
                    told = [purse.sign(owner, ONE) for owner in reversed(range(owners))]
                    self.assertEqual(told, [many >= need for many in range(1, owners + 1)])
                    self.assertEqual([type(each) for each in told], [bool] * owners)

    def test_the_same_again_is_nothing_new(self):
        for cheats in ((), (0,)):
            purse = joint(cheats=cheats)
            self.assertIs(purse.sign(0, ONE), False)
            before = inner(purse)
            self.assertIs(purse.sign(0, ONE), False)
            self.assertEqual(inner(purse), before)
            self.assertIs(purse.sign(1, ONE), True)
            before = inner(purse)
            self.assertIs(purse.sign(0, ONE), True)
            self.assertIs(purse.sign(1, ONE), True)
            self.assertEqual(inner(purse), before)
            self.assertEqual(purse.signed(ONE), [0, 1])

    def test_an_honest_owner_s_other_order_of_that_number(self):
        purse = joint(cheats=[2])
        purse.sign(0, ONE)
        before = inner(purse)
        for order in (OTHER, (2, 0, 3, 5), (2, 0, 0, 1000)):
            with self.subTest(order=order):
                with self.assertRaises(NotNow):
                    purse.sign(0, order)
                self.assertEqual(inner(purse), before)
        self.assertIs(purse.sign(0, ONE), False)

    def test_an_honest_owner_s_order_of_another_number(self):
        purse = joint()
        for number in (5, 0, 99, 1):
            self.assertIs(purse.sign(0, (2, number, 1, 5)), False)
            self.assertIs(purse.sign(1, (2, number, 1, 5)), True)
        for number in (5, 0, 99, 1):
            with self.assertRaises(NotNow):
                purse.sign(0, (2, number, 1, 6))
        self.assertEqual(purse.ready(), [(2, number, 1, 5) for number in (0, 1, 5, 99)])

    def test_a_cheat_signs_any(self):
        purse = joint(cheats=[0])
        for order in (ONE, OTHER, (2, 0, 3, 5), LATER, ONE):
            self.assertIs(purse.sign(0, order), False)
        self.assertEqual([purse.signed(order) for order in (ONE, OTHER, LATER)], [[0], [0], [0]])
        self.assertIs(purse.sign(1, OTHER), True)
        self.assertIs(purse.sign(2, ONE), True)
        self.assertEqual(purse.ready(), [ONE, OTHER])

    def test_others_may_sign_what_one_did_not(self):
        purse = joint(owners=4)
        self.assertEqual([purse.sign(owner, order) for owner, order in ((0, ONE), (1, OTHER), (2, OTHER), (3, ONE))],
                         [False, False, True, True])

    def test_what_is_no_order(self):
        purse = joint()
        purse.sign(0, ONE)
        before = inner(purse)
        for at, thing in enumerate(no_orders()):
            for owner in (0, 3, None):
                with self.subTest(at=at, owner=owner):
                    with self.assertRaises(BadOrder):
                        purse.sign(owner, thing)
        self.assertEqual(inner(purse), before)

    def test_another_purse_s_order_is_told_with_that_purse(self):
        for own in range(8):
            purse = joint(own)
            before = inner(purse)
            for other in range(8):
                order = (other, 0, (other + 1) % 8, 5)
                for owner in (0, 3, None, round_list()):
                    if other != own:
                        with self.subTest(own=own, other=other):
                            with self.assertRaises(NoPurse) as caught:
                                purse.sign(owner, order)
                            self.assertEqual(caught.exception.purse, other)
            self.assertEqual(inner(purse), before)
            self.assertIs(purse.sign(0, (own, 0, (own + 1) % 8, 5)), False)

    def test_no_owner(self):
        for owners in range(1, 7):
            purse = joint(owners=owners, need=1, cheats=(0,))
            purse.sign(0, ONE)
            before = inner(purse)
            for at, thing in enumerate(no_numbers(0, owners - 1)):
                for order in (ONE, OTHER, LATER):
                    with self.subTest(owners=owners, at=at):
                        with self.assertRaises(BadHouses):
                            purse.sign(thing, order)
            self.assertEqual(inner(purse), before)

    def test_one_owner(self):
        purse = joint(owners=1, need=1)
        self.assertIs(purse.sign(0, ONE), True)
        with self.assertRaises(NotNow):
            purse.sign(0, OTHER)
        self.assertEqual((purse.ready(), purse.is_sure(), purse.two_faced()), ([ONE], True, []))
        purse = joint(owners=1, need=1, cheats=[0])
        self.assertEqual([purse.sign(0, order) for order in (OTHER, ONE)], [True, True])
        self.assertEqual((purse.ready(), purse.is_sure(), purse.two_faced()), ([ONE, OTHER], False, [0]))


class TestTold(unittest.TestCase):
    def test_signed_rising(self):
        purse = joint(owners=6, need=6)
        row = (4, 0, 5, 2, 4, 1, 3)
        for at, owner in enumerate(row):
            purse.sign(owner, ONE)
            self.assertEqual(purse.signed(ONE), sorted(set(row[:at + 1])))
        self.assertEqual(purse.signed(OTHER), [])

    def test_signed_of_other_purses_and_of_no_order(self):
        purse = joint()
        purse.sign(0, ONE)
        for order in ORDERS:
            self.assertEqual(purse.signed(order), [])
        for at, thing in enumerate(no_orders()):
            with self.subTest(at=at):
                with self.assertRaises(BadOrder):
                    purse.signed(thing)

    def test_ready_rising(self):
        purse = joint(need=1, cheats=[0])
        orders = [LATER, OTHER, (2, 99, 0, 1), ONE, (2, 0, 0, 1000), (2, 10, 1, 1), (2, 9, 1, 1)]
        for order in orders:
            purse.sign(0, order)
        self.assertEqual(purse.ready(), sorted(orders))

    def test_ready_are_only_those_that_enough_have_signed(self):
        purse = joint(owners=4, need=3, cheats=[0, 1])
        for owner, order in ((0, ONE), (1, ONE), (0, OTHER), (1, OTHER), (2, OTHER), (3, LATER)):
            purse.sign(owner, order)
        self.assertEqual(purse.ready(), [OTHER])

    def test_two_faced_rising(self):
        purse = joint(owners=6, need=6, cheats=[0, 1, 2, 4, 5])
        for owner, order in ((5, ONE), (4, ONE), (4, LATER), (1, OTHER), (1, ONE), (2, ONE), (2, ONE), (3, ONE),
                             (3, LATER), (0, (2, 7, 1, 1))):
            purse.sign(owner, order)
        self.assertEqual(purse.two_faced(), [1])
        purse.sign(5, LATER)
        self.assertEqual(purse.two_faced(), [1])
        purse.sign(5, (2, 1, 1, 7))
        purse.sign(0, (2, 7, 3, 1))
        self.assertEqual(purse.two_faced(), [0, 1, 5])

    def test_nobody_honest_is_two_faced(self):
        for seed in range(60):
            drawn = Drawn(seed)
            owners = 1 + drawn.below(6)
            cheats = [owner for owner in range(owners) if drawn.below(3) == 0]
            purse = joint(owners=owners, need=1 + drawn.below(owners), cheats=cheats)
            signed = {}
            for turn in range(40):
                owner, order = drawn.below(owners), (2, drawn.below(4), drawn.below(2), 1 + drawn.below(2))
                mine = signed.setdefault(owner, [])
                if owner not in cheats and [each for each in mine if each[1] == order[1] and each != order]:
                    with self.assertRaises(NotNow):
                        purse.sign(owner, order)
                else:
                    mine.append(order)
                    purse.sign(owner, order)
            faces = [owner for owner, orders in signed.items()
                     if len(set(orders)) > len({order[1] for order in orders})]
            with self.subTest(seed=seed):
                self.assertEqual(purse.two_faced(), sorted(faces))
                self.assertEqual(set(faces) - set(cheats), set())
                for order in {order for orders in signed.values() for order in orders}:
                    self.assertEqual(purse.signed(order), sorted(who for who in signed if order in signed[who]))

    def test_lists_that_are_told_and_changed_behind(self):
        purse = joint(owners=3, need=1, cheats=[0])
        for owner, order in ((0, ONE), (0, OTHER), (1, ONE)):
            purse.sign(owner, order)
        before = inner(purse)
        for tell in (purse.ready, purse.two_faced, lambda: purse.signed(ONE), lambda: purse.signed(LATER)):
            told = tell()
            again = list(told)
            self.assertIs(type(told), list)
            told.append(2)
            told.reverse()
            self.assertEqual(tell(), again)
            told.clear()
            self.assertEqual(tell(), again)
            self.assertEqual(inner(purse), before)


class TestSure(unittest.TestCase):
    def test_the_edges(self):
        for owners, need, cheats, sure in (
                (1, 1, (), True), (2, 1, (), False), (2, 2, (), True), (3, 1, (), False), (3, 2, (), True),
                (4, 2, (), False), (4, 3, (), True), (6, 3, (), False), (6, 4, (), True),
                (3, 2, (0,), False), (3, 3, (0,), True), (4, 2, (0,), False), (4, 3, (0,), True),
                (5, 3, (4,), False), (5, 4, (4,), True), (6, 4, (1, 3), False), (6, 5, (1, 3), True),
                (2, 1, (0,), False), (2, 2, (0,), True), (2, 2, (0, 1), False), (1, 1, (0,), False),
                (6, 5, (0, 1, 2, 3, 4), False), (6, 6, (0, 1, 2, 3, 4), True), (6, 6, tuple(range(6)), False)):
            with self.subTest(owners=owners, need=need, cheats=cheats):
                self.assertIs(joint(owners=owners, need=need, cheats=cheats).is_sure(), sure)

    def test_sure_is_just_where_no_two_can_be_ready(self):
        for owners, need, cheats in shapes():
            honest = [owner for owner in range(owners) if owner not in cheats]
            can = False
            for choice in itertools.product((ONE, OTHER), repeat=len(honest)):
                purse = joint(owners=owners, need=need, cheats=cheats)
                for owner in cheats:
                    purse.sign(owner, ONE)
                    purse.sign(owner, OTHER)
                for owner, order in zip(honest, choice):
                    purse.sign(owner, order)
                can = can or len(purse.ready()) == 2
            with self.subTest(owners=owners, need=need, cheats=cheats):
                self.assertIs(joint(owners=owners, need=need, cheats=cheats).is_sure(), not can)

    def test_what_is_signed_changes_nothing_in_it(self):
        purse = joint(owners=3, need=2, cheats=())
        for owner in range(3):
            purse.sign(owner, ONE)
            self.assertIs(purse.is_sure(), True)


class TestTwoJoints(unittest.TestCase):
    def test_they_share_nothing(self):
        one, other = joint(cheats=[0]), joint(cheats=[0])
        before = inner(other)
        for order in (ONE, OTHER, LATER):
            one.sign(0, order)
        self.assertEqual(inner(other), before)


if __name__ == "__main__":
    unittest.main()
