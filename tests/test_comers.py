import unittest

from fillchairs.errors import BadSetup
from fillchairs.setups import all_comers
from tests.plain import EXAMPLE_SETUP, plain_comers


class TestAllComers(unittest.TestCase):
    def test_without_comers(self):
        self.assertEqual(all_comers(((2,), (1, 2), (2, 2), (0, 0))), [((), 0)])

    def test_without_groups(self):
        self.assertEqual(all_comers(((2,), (1, 2), (2, 2), (0, 2))), [((), 0), ((), 1), ((), 2)])

    def test_without_singles(self):
        self.assertEqual(
            all_comers(((2,), (2, 5), (2, 2), (2, 0))),
            [((), 0), ((2,), 0), ((2, 2), 0), ((2, 5), 0), ((5,), 0), ((5, 2), 0), ((5, 5), 0)],
        )

    def test_one_of_each(self):
        self.assertEqual(
            all_comers(((2,), (1, 3), (2, 2), (1, 1))),
            [((), 0), ((), 1), ((1,), 0), ((1,), 1), ((3,), 0), ((3,), 1)],
        )

    def test_more_than_there_is_room_for(self):
        self.assertEqual(
            all_comers(((1,), (4,), (1, 0), (2, 1))),
            [((), 0), ((), 1), ((4,), 0), ((4,), 1), ((4, 4), 0), ((4, 4), 1)],
        )

    def test_the_most(self):
        comers = all_comers(((5, 5), (3, 4, 5), (3, 4), (2, 2)))
        self.assertEqual(len(comers), (1 + 3 + 9) * 3)
        self.assertEqual(comers, plain_comers(((5, 5), (3, 4, 5), (3, 4), (2, 2))))

    def test_all_are_there_ascending_once(self):
        for sizes in ((1,), (5,), (1, 2), (2, 4), (1, 2, 3), (2, 3, 5)):
            for groups in range(3):
                for singles in range(3):
                    setup = ((3,), sizes, (1, 1), (groups, singles))
                    with self.subTest(setup):
                        comers = all_comers(setup)
                        self.assertEqual(comers, plain_comers(setup))
                        self.assertEqual(comers, sorted(set(comers)))

    def test_the_kinds_of_the_values(self):
        for comers in all_comers(EXAMPLE_SETUP):
            self.assertIs(type(comers), tuple)
            groups, singles = comers
            self.assertIs(type(groups), tuple)
            self.assertIs(type(singles), int)
        self.assertIs(type(all_comers(EXAMPLE_SETUP)), list)

    def test_the_list_is_new(self):
        first = all_comers(EXAMPLE_SETUP)
        kept = list(first)
        self.assertIsNot(all_comers(EXAMPLE_SETUP), first)
        first.clear()
        self.assertEqual(all_comers(EXAMPLE_SETUP), kept)

    def test_bad_setup(self):
        wrong = (None, (), [], 3, "setup", list(EXAMPLE_SETUP), ((2,), (2, 1), (2, 2), (1, 1)))
        for setup in (*wrong, ((2,), (1, 2), (2, 2), (True, 1)), ((2,), (1, 2), (2, 2), (3, 0))):
            with self.subTest(repr(setup)):
                with self.assertRaises(BadSetup):
                    all_comers(setup)

    def test_by_name(self):
        self.assertEqual(all_comers(setup=EXAMPLE_SETUP), all_comers(EXAMPLE_SETUP))


if __name__ == "__main__":
    unittest.main()
