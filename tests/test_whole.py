"""[1] and the interface over the whole program: its names, told lists and dicts, and the same in each run."""

import copy
import importlib
import inspect
import pathlib
import subprocess
import sys
import unittest

from manypurses import errors
from manypurses.audits import left_over, row_for, wanting
from manypurses.cuts import Cutting, cut_of
from manypurses.joints import Joint
from manypurses.orders import summed
from manypurses.shows import false_houses, false_owners, stuck_purses
from manypurses.wallets import Wallet
from manypurses.worlds import World

from things import Play, ask_through, bring, bring_all, inner

ROOT = pathlib.Path(__file__).resolve().parent.parent
# Of each name what may be handed in by place, what by name alone, and the defaults.
INTERFACE = {
    "orders": {
        "is_order": (1, ["purses"], {"purses": 8}), "place_of": (1, [], {}), "clash": (2, [], {}),
        "in_common": (1, ["few"], {}), "summed": (2, [], {})},
    "boards": {"checked": (1, ["houses", "few", "purses"], {"purses": 8})},
    "worlds": {
        "World": (1, ["few", "sums", "liars", "cheats"], {"liars": (), "cheats": ()}), "World.honest": (0, [], {}),
        "World.next_number": (1, [], {}), "World.ask": (3, [], {}), "World.cheat": (2, [], {}),
        "World.lie": (2, [], {}), "World.show": (2, [], {}), "World.letters": (0, [], {}), "World.come": (1, [], {}),
        "World.sums": (1, [], {}), "World.settled": (1, [], {}), "World.waits": (1, [], {}),
        "World.voted": (3, [], {}), "World.papers": (0, [], {}), "World.votes_for": (1, [], {}),
        "World.paper": (1, [], {}), "World.is_still": (0, [], {})},
    "cuts": {
        "cut_of": (2, [], {}), "Cutting": (1, [], {}), "Cutting.sign": (1, [], {}), "Cutting.lie": (2, [], {}),
        "Cutting.signers_of": (1, [], {}), "Cutting.good": (0, [], {}), "Cutting.take": (2, [], {}),
        "is_behind": (2, [], {})},
    "shows": {"false_owners": (1, [], {}), "false_houses": (1, [], {}), "stuck_purses": (1, [], {}),
              "lost_nothing": (1, [], {})},
    "wallets": {
        "Wallet": (1, ["sums", "houses", "few"], {}), "Wallet.add": (1, [], {}), "Wallet.has": (0, [], {}),
        "Wallet.next_number": (0, [], {}), "Wallet.order": (2, [], {})},
    "texts": {"order_text": (1, [], {}), "paper_text": (1, [], {}), "order_read": (1, [], {}),
              "paper_read": (1, [], {})},
    "audits": {"row_for": (1, ["sums"], {}), "left_over": (1, ["sums"], {}), "is_row": (1, ["sums"], {}),
               "wanting": (1, ["sums"], {})},
    "joints": {
        "Joint": (1, ["owners", "need", "cheats"], {"cheats": ()}), "Joint.sign": (2, [], {}),
        "Joint.signed": (1, [], {}), "Joint.ready": (0, [], {}), "Joint.is_sure": (0, [], {}),
        "Joint.two_faced": (0, [], {})},
}


def form_of(file, name):
    thing = importlib.import_module("manypurses." + file)
    for part in name.split("."):
        thing = getattr(thing, part)
    given = list(inspect.signature(thing).parameters.values())
    by_place = [each for each in given if each.kind is each.POSITIONAL_OR_KEYWORD and each.name != "self"]
    by_name = [each for each in given if each.kind is each.KEYWORD_ONLY]
    assert all(each.default is each.empty for each in by_place)
    assert len(by_place) + len(by_name) + ("." in name) == len(given)
    return (len(by_place), [each.name for each in by_name],
            {each.name: each.default for each in by_name if each.default is not each.empty})


def busy_world():
    """A world with letters, papers, votes, waiting papers, a cheat and a liar that are shown, and good cuts."""
    world = World(4, few=1, sums=[20, 5, 9], liars=[3], cheats=[2])
    ask_through(world, 0, 1, 4)
    cutting = Cutting(world)
    for house in world.honest():
        cutting.sign(house)
    first = world.ask(0, 1, 3)
    world.lie(3, first)
    for house in (0, 1):
        bring(world, "order", house, first)
    for house in (0, 1):
        bring(world, "paper", house, first)
    second = world.ask(0, 1, 2)
    world.lie(3, second)
    for house in (0, 1):
        bring(world, "order", house, second)
    bring(world, "paper", 2, second)
    for house, much in ((0, 1), (1, 2), (2, 3)):
        world.cheat((2, 0, 1, much), house)
        world.lie(3, (2, 0, 1, much))
        bring(world, "order", house, (2, 0, 1, much))
    return world, cutting, second


class TestInterface(unittest.TestCase):
    def test_every_name_is_there_as_it_stands(self):
        for file, names in INTERFACE.items():
            for name, form in names.items():
                with self.subTest(file=file, name=name):
                    self.assertEqual(form_of(file, name), form)

    def test_every_refusal_stands_under_purse_error_and_none_under_another(self):
        classes = [thing for thing in vars(errors).values() if isinstance(thing, type)]
        self.assertEqual(len(classes), 12)
        for one in classes:
            self.assertTrue(issubclass(one, errors.PurseError) and issubclass(one, ValueError))
            for other in classes:
                if other not in (one, errors.PurseError):
                    self.assertFalse(issubclass(one, other))


class TestToldAnew(unittest.TestCase):
    def check(self, tell, *kept):
        """What is told is a list or dict, and a new one: what is changed in it changes nothing anywhere."""
        before = copy.deepcopy([inner(thing) for thing in kept])
        told, again = tell(), tell()
        self.assertIn(type(told), (list, dict))
        self.assertTrue(told)
        self.assertEqual(told, again)
        self.assertIsNot(told, again)
        for thing in kept:
            self.assertIsNot(told, thing)
        told.clear()
        self.assertEqual(tell(), again)
        self.assertEqual([inner(thing) for thing in kept], before)

    def test_orders(self):
        orders, sums = [(0, 0, 1, 3)], [5, 5]
        self.check(lambda: summed(orders, sums), orders, sums)

    def test_worlds_and_cuts(self):
        world, cutting, second = busy_world()
        cut = cutting.good()[0]
        for tell in (world.honest, world.letters, world.papers, lambda: world.sums(0), lambda: world.settled(0),
                     lambda: world.waits(2), lambda: world.votes_for(second), cutting.good,
                     lambda: cutting.signers_of(cut)):
            self.check(tell, world, cutting)

    def test_shows(self):
        world, cutting, second = busy_world()
        for tell in (false_owners, false_houses, stuck_purses):
            self.check(lambda: tell(world), world, cutting)

    def test_audits(self):
        orders, sums = [(1, 0, 0, 9), (0, 0, 1, 3), (0, 1, 1, 99)], [5, 5]
        for tell in (row_for, left_over, wanting):
            self.check(lambda: tell(orders, sums=sums), orders, sums)
        # All can be settled in just this row: what is told is like what was handed in, and another list.
        self.check(lambda: row_for(orders[1:2], sums=sums), orders, sums)

    def test_joints(self):
        joint = Joint(0, owners=2, need=1, cheats=[1])
        for order in ((0, 0, 1, 1), (0, 0, 1, 2)):
            joint.sign(1, order)
        for tell in (joint.ready, joint.two_faced, lambda: joint.signed((0, 0, 1, 1))):
            self.check(tell, joint)

    def test_wallets_tell_no_list(self):
        wallet = Wallet(0, sums=[5, 5], houses=1, few=0)
        wallet.add(((1, 0, 0, 1), (0,)))
        self.assertEqual([type(told) for told in (wallet.has(), wallet.next_number(), wallet.order(1, 1))],
                         [int, int, tuple])


class TestTheSameInEachRun(unittest.TestCase):
    def test_two_plays(self):
        one, other = Play(6), Play(6)
        for play in (one, other):
            for turn in range(50):
                play.step()
            bring_all(play.world)
        self.assertEqual(inner(one.world), inner(other.world))
        self.assertEqual([cut_of(one.world, house) for house in one.world.honest()],
                         [cut_of(other.world, house) for house in other.world.honest()])

    def test_nothing_but_the_package_is_drawn_in(self):
        files = sorted(path.stem for path in (ROOT / "manypurses").glob("*.py"))
        names = ["manypurses." + file for file in files if file != "__init__"]
        rows = ["import sys", "before = set(sys.modules)", "import " + ", ".join(names),
                "print(sorted(set(sys.modules) - before))"]
        run = subprocess.run([sys.executable, "-S", "-B", "-c", "\n".join(rows)], cwd=ROOT, capture_output=True,
                             text=True, check=True)
        self.assertEqual(run.stdout.strip(), str(sorted(names + ["manypurses"])))


if __name__ == "__main__":
    unittest.main()
