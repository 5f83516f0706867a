"""The interface's head: the refusals and what stands under what."""

import unittest

from manypurses import errors

NAMES = ("BadNumber", "BadOrder", "BadHouses", "NoHouse", "NoPurse", "NoLetter",
         "NotNow", "TooMuch", "BadPaper", "BadCut", "BadText")


class TestErrors(unittest.TestCase):
    def test_purse_error_stands_under_value_error(self):
        self.assertEqual(errors.PurseError.__bases__, (ValueError,))

    def test_eleven_classes_stand_under_purse_error(self):
        self.assertEqual(len(set(NAMES)), 11)
        for name in NAMES:
            with self.subTest(name):
                self.assertTrue(issubclass(getattr(errors, name), errors.PurseError))

    def test_none_stands_under_another_one(self):
        for one in NAMES:
            for other in NAMES:
                if one != other:
                    with self.subTest(one=one, other=other):
                        self.assertFalse(issubclass(getattr(errors, one), getattr(errors, other)))

    def test_no_other_refusal_is_there(self):
        there = {name for name, thing in vars(errors).items() if isinstance(thing, type)}
        self.assertEqual(there, set(NAMES) | {"PurseError"})

    def test_no_house_has_the_house(self):
        for house in (0, 15, -1, None, "a", [1], True):
            with self.subTest(house=house):
                self.assertIs(errors.NoHouse(house).house, house)

    def test_no_purse_has_the_purse(self):
        for purse in (0, 7, -1, None, "a", [1], True):
            with self.subTest(purse=purse):
                self.assertIs(errors.NoPurse(purse).purse, purse)

    def test_the_fields_come_through_a_raise(self):
        with self.assertRaises(errors.PurseError) as caught:
            raise errors.NoHouse(3)
        self.assertEqual(caught.exception.house, 3)
        with self.assertRaises(ValueError) as caught:
            raise errors.NoPurse(4)
        self.assertEqual(caught.exception.purse, 4)

    def test_a_house_and_a_purse_must_be_told(self):
        with self.assertRaises(TypeError):
            errors.NoHouse()
        with self.assertRaises(TypeError):
            errors.NoPurse()

    def test_the_others_are_made_with_words(self):
        for name in NAMES:
            if name not in ("NoHouse", "NoPurse"):
                with self.subTest(name):
                    self.assertEqual(str(getattr(errors, name)("why")), "why")


if __name__ == "__main__":
    unittest.main()
