"""[11]: orders and papers as texts, sign by sign, and what is read."""

import itertools
import re
import unittest

from manypurses.errors import BadOrder, BadPaper, BadText
from manypurses.orders import is_order
from manypurses.texts import order_read, order_text, paper_read, paper_text

from things import ORDERS, OTHER_KINDS, PARTS, Play, no_numbers, no_orders, no_wholes

TOLD = {
    (0, 0, 1, 1): "0.0: 1 to 1",
    (7, 99, 6, 1000): "7.99: 1000 to 6",
    (3, 10, 0, 100): "3.10: 100 to 0",
    (1, 9, 7, 10): "1.9: 10 to 7",
    (0, 20, 2, 205): "0.20: 205 to 2",
}
TOLD_PAPERS = {
    ((0, 0, 1, 1), ()): "0.0: 1 to 1 by ",
    ((0, 0, 1, 1), (0,)): "0.0: 1 to 1 by 0",
    ((7, 99, 6, 1000), (15,)): "7.99: 1000 to 6 by 15",
    ((3, 10, 0, 100), (0, 2, 10)): "3.10: 100 to 0 by 0 2 10",
    ((1, 9, 7, 10), tuple(range(16))): "1.9: 10 to 7 by 0 1 2 3 4 5 6 7 8 9 10 11 12 13 14 15",
}
# What is written so, told once more without the program: one form for an order, one for the houses.
ORDER_FORM = re.compile(r"([0-7])\.(0|[1-9][0-9]?): ([1-9][0-9]{0,2}|1000) to ([0-7])")
HOUSES_FORM = re.compile(r"(?:(?:[0-9]|1[0-5])(?: (?:[0-9]|1[0-5]))*)?")
SIGNS = "0123456789 .:,;-+_toTObyBY\n\t\r\0eE\"'/\\x" + "\u0663\u00b2\uff11\u00a0\u2009\u3002\u0966\u00bd\ud800"


def expected_order(text):
    form = ORDER_FORM.fullmatch(text)
    if form is None or form[1] == form[4]:
        return None
    return (int(form[1]), int(form[2]), int(form[4]), int(form[3]))


def expected_paper(text):
    ahead, by, behind = text.partition(" by ")
    if not by or expected_order(ahead) is None or not HOUSES_FORM.fullmatch(behind):
        return None
    return (expected_order(ahead), tuple(int(part) for part in behind.split()))


def one_sign_other(text):
    """The text with one sign less, one more, or another one, at each place, and with two neighbours changed about."""
    told = []
    for at in range(len(text) + 1):
        told += [text[:at] + sign + text[at:] for sign in SIGNS]
        if at < len(text):
            told.append(text[:at] + text[at + 1:])
            told += [text[:at] + sign + text[at + 1:] for sign in SIGNS]
            told.append(text[:at] + text[at:at + 2][::-1] + text[at + 2:])
    return [each for each in told if each != text]


def edge_orders():
    rows = itertools.product((0, 1, 7), (0, 1, 9, 10, 11, 99), (0, 1, 7), (1, 9, 10, 11, 99, 100, 101, 999, 1000))
    return [order for order in rows if order[0] != order[2]]


def edge_signers():
    return [(), (0,), (15,), (9,), (10,), (0, 15), (9, 10), tuple(range(16)), (1, 11), (0, 1, 10)]


class TestOrderText(unittest.TestCase):
    def test_sign_by_sign(self):
        for order, text in TOLD.items():
            with self.subTest(order=order):
                self.assertEqual(order_text(order), text)
                self.assertIs(type(order_text(order)), str)

    def test_the_edges_of_all_numbers(self):
        for purse, number, goal, much in edge_orders():
            text = str(purse) + "." + str(number) + ": " + str(much) + " to " + str(goal)
            with self.subTest(text=text):
                self.assertEqual(order_text((purse, number, goal, much)), text)

    def test_what_is_no_order(self):
        for at, thing in enumerate(no_orders() + [[0, 0, 1, 1], (True, 0, 0, 1), (0, False, 1, 1), (0, 0, True, 1),
                                                  (0, 0, 1, True), ((0, 0, 1, 1), (0,))]):
            with self.subTest(at=at):
                with self.assertRaises(BadOrder):
                    order_text(thing)


class TestPaperText(unittest.TestCase):
    def test_sign_by_sign(self):
        for paper, text in TOLD_PAPERS.items():
            with self.subTest(paper=paper):
                self.assertEqual(paper_text(paper), text)
                self.assertIs(type(paper_text(paper)), str)

    def test_every_house_and_every_two(self):
        for one in range(16):
            self.assertEqual(paper_text(((0, 0, 1, 1), (one,))), "0.0: 1 to 1 by " + str(one))
            for other in range(one + 1, 16):
                text = "0.0: 1 to 1 by " + str(one) + " " + str(other)
                self.assertEqual(paper_text(((0, 0, 1, 1), (one, other))), text)

    def test_houses_in_whatever_row(self):
        self.assertEqual(paper_text(((0, 0, 1, 1), (2, 0, 2))), "0.0: 1 to 1 by 2 0 2")

    def test_what_is_no_pair(self):
        order = (0, 0, 1, 1)
        for at, thing in enumerate([
                [order, (0,)], (order,), (order, (), ()), ((0,), order), order, (), ((order, (0,)),), {order: (0,)},
                (order, [0]), (order, []), (order, None), (order, 0), (order, {0: 0}), (order, {0}), (order, "0"),
                (order, ""), (order, b""), (order, range(2)), (list(order), (0,)), "0.0: 1 to 1 by 0"]):
            with self.subTest(at=at):
                with self.assertRaises(BadPaper):
                    paper_text(thing)

    def test_what_is_no_order(self):
        for at, thing in enumerate(no_orders()):
            for signers in ((), (0,), (0, 1, 2)):
                with self.subTest(at=at, signers=signers):
                    with self.assertRaises(BadPaper):
                        paper_text((thing, signers))

    def test_what_are_no_houses(self):
        for at, thing in enumerate(no_numbers(0, 15)):
            for signers in ((thing,), (0, thing), (thing, 5), (0, thing, 15)):
                with self.subTest(at=at, many=len(signers)):
                    with self.assertRaises(BadPaper):
                        paper_text(((0, 0, 1, 1), signers))

    def test_things_of_other_kinds(self):
        for at, thing in enumerate(OTHER_KINDS + PARTS):
            if thing not in (((0, 0, 1, 1), (0,)), ((0, 0, 1, 1), (0, 0, 1, 1))):
                with self.subTest(at=at):
                    with self.assertRaises(BadPaper):
                        paper_text(thing)


class TestRead(unittest.TestCase):
    def check_order(self, text):
        told = expected_order(text)
        if told is None:
            with self.assertRaises(BadText):
                order_read(text)
        else:
            self.assertEqual(order_read(text), told)
            self.assertEqual(order_text(order_read(text)), text)
        return told

    def check_paper(self, text):
        told = expected_paper(text)
        if told is None:
            with self.assertRaises(BadText):
                paper_read(text)
        else:
            self.assertEqual(paper_read(text), told)
            self.assertEqual(paper_text(paper_read(text)), text)
        return told

    def test_what_was_written_is_read_back_the_same(self):
        for order in edge_orders() + list(ORDERS) + list(TOLD):
            with self.subTest(order=order):
                told = order_read(order_text(order))
                self.assertEqual(told, order)
                self.assertIs(type(told), tuple)
                self.assertIs(is_order(told), True)
        for order, signers in itertools.product(ORDERS, edge_signers() + [(2, 0, 2)]):
            with self.subTest(order=order, signers=signers):
                told = paper_read(paper_text((order, signers)))
                self.assertEqual(told, (order, signers))
                self.assertEqual([type(each) for each in (told, *told)], [tuple] * 3)

    def test_orders_with_one_sign_other(self):
        read = refused = 0
        for order in ORDERS + tuple(TOLD):
            for text in one_sign_other(order_text(order)):
                with self.subTest(text=text):
                    told = self.check_order(text)
                read += told is not None
                refused += told is None
        self.assertGreater(read, 100)
        self.assertGreater(refused, 5000)

    def test_papers_with_one_sign_other(self):
        read = refused = 0
        for paper in list(TOLD_PAPERS) + [((0, 99, 7, 999), signers) for signers in edge_signers()]:
            for text in one_sign_other(paper_text(paper)):
                with self.subTest(text=text):
                    told = self.check_paper(text)
                read += told is not None
                refused += told is None
        self.assertGreater(read, 100)
        self.assertGreater(refused, 5000)

    def test_needless_noughts(self):
        for text in ("00.0: 1 to 1", "0.00: 1 to 1", "0.0: 01 to 1", "0.0: 1 to 01", "01.0: 1 to 2", "1.01: 1 to 2",
                     "1.0: 0001 to 2", "1.0: 01000 to 2", "1.0: 1 to 00", "1.007: 1 to 2"):
            with self.subTest(text=text):
                self.assertIsNone(self.check_order(text))
                self.assertIsNone(self.check_paper(text + " by 0"))
        for houses in ("00", "01", "0 01", "00 1", "010", "015", "1 02 3"):
            with self.subTest(houses=houses):
                self.assertIsNone(self.check_paper("0.0: 1 to 1 by " + houses))

    def test_signs_ahead_of_numbers_and_within(self):
        for part in ("-1", "+1", "-0", "+0", " 1", "1 ", "1_0", "0x1", "1e1", "1.0", "1,0", "one", "", "1\n"):
            for form in ("{}.0: 1 to 2", "0.{}: 1 to 2", "0.0: {} to 2", "0.0: 1 to {}"):
                with self.subTest(part=part, form=form):
                    self.assertIsNone(self.check_order(form.replace("{}", part)))
            if part:
                for form in ("{}", "{} 3", "0 {}", "0 {} 3"):
                    with self.subTest(part=part, form=form):
                        self.assertIsNone(self.check_paper("0.0: 1 to 2 by " + form.replace("{}", part)))

    def test_blanks_at_either_end(self):
        for text in (" 0.0: 1 to 1", "0.0: 1 to 1 ", "\n0.0: 1 to 1", "0.0: 1 to 1\n", "\t0.0: 1 to 1"):
            self.assertIsNone(self.check_order(text))
        for text in (" 0.0: 1 to 1 by 0", "0.0: 1 to 1 by 0 ", "0.0: 1 to 1 by 0\n", "0.0: 1 to 1 by  0",
                     "0.0: 1 to 1 by  ", "0.0: 1 to 1 by", "0.0: 1 to 1 by \n", "0.0: 1 to 1 by 0  1"):
            self.assertIsNone(self.check_paper(text))

    def test_figures_that_are_none(self):
        for figure in "\u0661\u06f1\u0967\uff11\u00b9\u2081\u2460\U0001d7cf":
            for at in (0, 2, 5, 10):
                text = "3.4: 5 to 6"
                with self.subTest(figure=figure, at=at):
                    self.assertIsNone(self.check_order(text[:at] + figure + text[at + 1:]))
            self.assertIsNone(self.check_paper("3.4: 5 to 6 by " + figure))

    def test_numbers_beyond_their_bounds(self):
        for text in ("8.0: 1 to 1", "0.100: 1 to 1", "0.0: 0 to 1", "0.0: 1001 to 1", "0.0: 1 to 8", "10.0: 1 to 1",
                     "0.0: 9999 to 1", "0.0: 10000 to 1", "0.1000: 1 to 1", "0.0: 1 to 10"):
            with self.subTest(text=text):
                self.assertIsNone(self.check_order(text))
                self.assertIsNone(self.check_paper(text + " by 0"))

    def test_very_many_figures(self):
        for many in (5, 400, 5000, 200000):
            figures = "1" * many
            for text in (figures + ".0: 1 to 1", "0." + figures + ": 1 to 1", "0.0: " + figures + " to 1",
                         "0.0: 1 to " + figures):
                with self.assertRaises(BadText):
                    order_read(text)
                with self.assertRaises(BadText):
                    paper_read(text + " by 0")
            for houses in (figures, "0 " + figures, figures + " 0", "0" * many):
                with self.assertRaises(BadText):
                    paper_read("0.0: 1 to 1 by " + houses)

    def test_a_goal_that_is_the_purse_itself(self):
        for purse in range(8):
            with self.subTest(purse=purse):
                self.assertIsNone(self.check_order(f"{purse}.0: 1 to {purse}"))
                self.assertIsNone(self.check_paper(f"{purse}.0: 1 to {purse} by 0 1"))

    def test_houses_beyond_fifteen(self):
        for house in range(40):
            for form in ("{}", "0 {}", "{} 15"):
                with self.subTest(house=house, form=form):
                    told = self.check_paper("0.0: 1 to 1 by " + form.replace("{}", str(house)))
                    self.assertEqual(told is None, house > 15)

    def test_parts_left_out_told_twice_or_changed_about(self):
        parts = ["0", ".", "0", ": ", "1", " to ", "1", " by ", "0", " ", "2"]
        for at in range(len(parts)):
            for text in (parts[:at] + parts[at + 1:], parts[:at] + parts[at:at + 1] * 2 + parts[at + 1:],
                         parts[:at], parts[at:], parts[at:] + parts[:at]):
                with self.subTest(text=text):
                    self.check_order("".join(text))
                    self.check_paper("".join(text))

    def test_an_order_s_text_is_no_paper_s_and_the_other_way(self):
        for order in ORDERS:
            with self.assertRaises(BadText):
                paper_read(order_text(order))
            for signers in edge_signers():
                with self.assertRaises(BadText):
                    order_read(paper_text((order, signers)))

    def test_what_is_no_text(self):
        others = [b"0.0: 1 to 1", b"0.0: 1 to 1 by 0", ["0.0: 1 to 1"], ("0.0: 1 to 1",), (0, 0, 1, 1), list("0.0: 1")]
        for at, thing in enumerate(others + [each for each in no_wholes() + [0, 5, 10 ** 40] if type(each) is not str]):
            with self.subTest(at=at):
                with self.assertRaises(BadText):
                    order_read(thing)
                with self.assertRaises(BadText):
                    paper_read(thing)

    def test_other_texts(self):
        for text in ("", " ", "\n", ".", ": ", " to ", " by ", "abcd", ".: to ", ".: to  by ", "0.0: 1 to 1 by 0 by 1",
                     "0.0: 1 to 1 to 1", "0.0.0: 1 to 1", "0.0: 1: 1 to 1", "0.0: 1 TO 1", "None", "(0, 0, 1, 1)"):
            with self.subTest(text=text):
                self.assertIsNone(self.check_order(text))
                self.assertIsNone(self.check_paper(text))
                self.assertIsNone(self.check_paper(text + " by "))

    def test_papers_of_a_drawn_world(self):
        play = Play(7)
        for turn in range(80):
            play.step()
        play.end()
        self.assertGreater(len(play.world.papers()), 2)
        for order in play.world.papers():
            paper = play.world.paper(order)
            self.assertEqual(paper_read(paper_text(paper)), paper)
            self.assertEqual(paper_text(paper), order_text(order) + " by " + " ".join(map(str, paper[1])))


if __name__ == "__main__":
    unittest.main()
