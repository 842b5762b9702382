import unittest

from fillchairs import errors

WITH_TEXT = (
    "BadSetup",
    "BadRule",
    "BadState",
    "BadStanding",
    "BadFraction",
    "BadWho",
    "BadNumber",
    "TooMany",
    "BadSeen",
    "BadComers",
    "NothingToUndo",
    "BadCommand",
)
WITH_PLACE = ("BadRow", "BadWalk", "BadText")
NAMES = WITH_TEXT + WITH_PLACE


def made(name):
    return getattr(errors, name)(7 if name in WITH_PLACE else "a text")


class TestErrors(unittest.TestCase):
    def test_there_are_fifteen(self):
        self.assertEqual(len(set(NAMES)), 15)
        found = [
            name
            for name, thing in vars(errors).items()
            if isinstance(thing, type) and issubclass(thing, errors.ChairError)
        ]
        self.assertEqual(sorted(found), sorted((*NAMES, "ChairError")))

    def test_each_is_a_chair_error_and_a_value_error(self):
        for name in NAMES:
            with self.subTest(name):
                self.assertIsInstance(made(name), errors.ChairError)
                self.assertIsInstance(made(name), ValueError)

    def test_each_stands_directly_under_chair_error(self):
        self.assertEqual(errors.ChairError.__bases__, (ValueError,))
        for name in NAMES:
            with self.subTest(name):
                self.assertEqual(getattr(errors, name).__bases__, (errors.ChairError,))

    def test_none_is_another_one(self):
        for name in NAMES:
            for other in NAMES:
                if other != name:
                    with self.subTest(f"{name} {other}"):
                        self.assertNotIsInstance(made(name), getattr(errors, other))

    def test_chair_error_is_none_of_them(self):
        error = errors.ChairError("a text")
        self.assertIsInstance(error, ValueError)
        self.assertEqual(str(error), "a text")
        for name in NAMES:
            with self.subTest(name):
                self.assertNotIsInstance(error, getattr(errors, name))

    def test_those_with_a_text_are_made_with_it(self):
        for name in WITH_TEXT:
            with self.subTest(name):
                self.assertEqual(str(getattr(errors, name)("told so")), "told so")

    def test_those_with_a_place_have_it_as_an_attribute(self):
        for name in WITH_PLACE:
            for place in (-1, 0, 5, 300):
                with self.subTest(f"{name} {place}"):
                    kind = getattr(errors, name)
                    self.assertEqual(kind(place).place, place)
                    self.assertEqual(kind(place=place).place, place)

    def test_each_can_be_raised_and_caught_as_a_chair_error(self):
        for name in NAMES:
            with self.subTest(name):
                with self.assertRaises(errors.ChairError):
                    raise made(name)


if __name__ == "__main__":
    unittest.main()
