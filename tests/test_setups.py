import unittest

from fillchairs.setups import is_rule, is_setup
from tests.plain import EXAMPLE_RULE, EXAMPLE_SETUP, WIDE

SETUP = ((2, 4), (1, 3, 5), (2, 3), (1, 2))
ROW = (1, (1, 2), (0, 9), (3, 3), "part", 2)


class LikeAll:
    """An object that claims to be equal to everything."""

    __hash__ = None

    def __eq__(self, other):
        return True


class LikeNone:
    """An object that cannot be compared, measured or iterated over."""

    def __eq__(self, other):
        raise RuntimeError

    def __len__(self):
        raise RuntimeError

    def __iter__(self):
        raise RuntimeError


STRANGE = (
    LikeAll(),
    LikeNone(),
    None,
    True,
    False,
    0,
    1,
    -1,
    "",
    "group",
    b"",
    [],
    {},
    {1: 2},
    set(),
    frozenset(),
    object(),
    int,
    len,
    range(4),
    ((),),
    (((),),),
    (None, None, None, None),
    ([], [], [], []),
    ("2", "12", "22", "11"),
)


def with_part(thing, path, part):
    """The tuple with another part at the path of indexes."""
    if not path:
        return part
    at = path[0]
    return (*thing[:at], with_part(thing[at], path[1:], part), *thing[at + 1 :])


class Checks(unittest.TestCase):
    def holds(self, test, thing, answer):
        """The test gives this answer, twice, and the thing stays as it was."""
        with self.subTest(repr(thing)):
            before = repr(thing)
            self.assertIs(test(thing), answer)
            self.assertIs(test(thing), answer)
            self.assertEqual(repr(thing), before)


class TestIsSetup(Checks):
    def wrong(self, *path_and_part):
        *path, part = path_and_part
        self.holds(is_setup, with_part(SETUP, path, part), False)

    def right(self, *path_and_part):
        *path, part = path_and_part
        self.holds(is_setup, with_part(SETUP, path, part), True)

    def test_right_ones(self):
        self.holds(is_setup, EXAMPLE_SETUP, True)
        self.holds(is_setup, SETUP, True)
        self.holds(is_setup, ((1,), (1,), (1, 0), (0, 0)), True)
        self.holds(is_setup, ((5, 5), (3, 4, 5), (3, 4), (2, 2)), True)
        self.holds(is_setup, ((5, 1), (2,), (1, 0), (2, 2)), True)

    def test_each_number_at_its_bounds(self):
        for seats in (1, 5):
            self.right(0, (seats,))
            self.right(0, 0, seats)
            self.right(0, 1, seats)
        self.right(1, (1,))
        self.right(1, (5,))
        for groups in (1, 2, 3):
            self.right(2, 0, groups)
        for singles in (0, 1, 2, 3, 4):
            self.right(2, 1, singles)
        for many in (0, 1, 2):
            self.right(3, 0, many)
            self.right(3, 1, many)

    def test_each_number_just_out_of_its_bounds(self):
        for seats in (0, 6, -1, 10**50):
            self.wrong(0, (seats,))
            self.wrong(0, 0, seats)
            self.wrong(0, 1, seats)
        self.wrong(1, (0,))
        self.wrong(1, (6,))
        self.wrong(1, (0, 3, 5))
        self.wrong(1, (1, 3, 6))
        for groups in (0, 4, -1):
            self.wrong(2, 0, groups)
        for singles in (-1, 5):
            self.wrong(2, 1, singles)
        for many in (-1, 3):
            self.wrong(3, 0, many)
            self.wrong(3, 1, many)

    def test_sizes_ascend_without_duplicates(self):
        self.right(1, (1, 2))
        self.right(1, (4, 5))
        for sizes in ((2, 1), (1, 1), (5, 5), (1, 3, 2), (2, 1, 3), (3, 2, 1), (1, 2, 2), (1, 1, 2)):
            self.wrong(1, sizes)

    def test_no_bool_stands_for_an_integer(self):
        for path in ((0, 0), (0, 1), (1, 0), (2, 0), (2, 1), (3, 0), (3, 1)):
            self.wrong(*path, True)
        for path in ((2, 1), (3, 0), (3, 1)):
            self.wrong(*path, False)
        self.wrong(0, (True,))
        self.wrong(1, (True,))
        self.wrong(1, (True, 2))

    def test_nothing_else_stands_for_an_integer(self):
        for path in ((0, 0), (0, 1), (1, 0), (1, 2), (2, 0), (2, 1), (3, 0), (3, 1)):
            for part in (None, "1", (1,), [1], b"1", {}, object, LikeAll(), LikeNone()):
                self.wrong(*path, part)

    def test_lists_do_not_stand_for_tuples(self):
        self.wrong(list(SETUP))
        for at in range(4):
            self.wrong(at, list(SETUP[at]))

    def test_other_objects_do_not_stand_for_tuples(self):
        for at in range(4):
            for part in (None, 2, "12", b"12", range(1, 3), {1: 1, 2: 2}, {1, 2}):
                self.wrong(at, part)

    def test_a_part_more_or_fewer(self):
        self.wrong(SETUP[:3])
        self.wrong((*SETUP, (1, 1)))
        self.wrong((*SETUP, None))
        self.wrong(())
        self.wrong(0, ())
        self.wrong(0, (1, 2, 3))
        self.wrong(1, ())
        self.wrong(1, (1, 2, 3, 4))
        for at in (2, 3):
            self.wrong(at, ())
            self.wrong(at, (1,))
            self.wrong(at, (1, 1, 1))

    def test_other_objects(self):
        for thing in STRANGE:
            self.holds(is_setup, thing, False)
        self.holds(is_setup, (), False)
        self.holds(is_setup, EXAMPLE_RULE, False)

    def test_deep_objects(self):
        deep = ()
        for _ in range(90):
            deep = (deep,)
        self.holds(is_setup, deep, False)
        self.wrong(0, deep)
        self.wrong(1, (deep, 2))

    def test_by_name(self):
        self.assertIs(is_setup(thing=SETUP), True)


class TestIsRule(Checks):
    def wrong(self, *path_and_part):
        *path, part = path_and_part
        self.holds(is_rule, (with_part(ROW, path, part),), False)
        self.holds(is_rule, (ROW, with_part(ROW, path, part)), False)

    def right(self, *path_and_part):
        *path, part = path_and_part
        self.holds(is_rule, (with_part(ROW, path, part),), True)
        self.holds(is_rule, (ROW, with_part(ROW, path, part)), True)

    def test_right_ones(self):
        self.holds(is_rule, (), True)
        self.holds(is_rule, (ROW,), True)
        self.holds(is_rule, EXAMPLE_RULE, True)
        self.holds(is_rule, (ROW, ROW), True)

    def test_at_most_eight_rows(self):
        self.holds(is_rule, (ROW,) * 7, True)
        self.holds(is_rule, (ROW,) * 8, True)
        self.holds(is_rule, (ROW,) * 9, False)
        self.holds(is_rule, (ROW,) * 8 + (None,), False)

    def test_moods(self):
        for at in (0, 5):
            for mood in (0, 1, 2):
                self.right(at, mood)
            for mood in (-1, 3, True, False, None, "0", (0,), [0]):
                self.wrong(at, mood)

    def test_ranges(self):
        for at in (1, 2, 3):
            for span in ((0, 0), (9, 9), (0, 9), (4, 5), (5, 5)):
                self.right(at, span)
            for span in ((-1, 0), (0, 10), (10, 10), (-1, -1), (1, 0), (9, 0), (5, 4)):
                self.wrong(at, span)

    def test_wrong_kinds_in_ranges(self):
        for at in (1, 2, 3):
            for part in (True, False, None, "1", (1,), [1]):
                self.wrong(at, (part, 9))
                self.wrong(at, (0, part))
            for span in ([0, 9], (), (0,), (0, 1, 2), None, 0, "09", range(2), {0: 1, 9: 1}):
                self.wrong(at, span)

    def test_deeds(self):
        for deed in ("group", "single", "part", "go"):
            self.right(4, deed)
        for deed in ("", "Group", "GO", "g", "groups", "group ", " go", "sit", "par", "go\n"):
            self.wrong(4, deed)
        for deed in (b"go", None, 0, 1, True, ("go",), ["go"], {"go": 1}, {"go"}, LikeAll(), LikeNone()):
            self.wrong(4, deed)

    def test_a_part_more_or_fewer(self):
        for count in range(6):
            self.wrong(ROW[:count])
        self.wrong((*ROW, 0))
        self.wrong((*ROW, None))

    def test_lists_do_not_stand_for_tuples(self):
        self.holds(is_rule, [], False)
        self.holds(is_rule, [ROW], False)
        self.wrong(list(ROW))
        for at in (1, 2, 3):
            self.wrong(at, list(ROW[at]))

    def test_a_wrong_row_anywhere(self):
        bad = (0, WIDE, WIDE, WIDE, "stay", 0)
        for at in range(8):
            rows = [ROW] * 8
            rows[at] = bad
            self.holds(is_rule, tuple(rows), False)

    def test_other_objects(self):
        for thing in STRANGE:
            self.holds(is_rule, thing, False)
        self.holds(is_rule, ROW, False)
        self.holds(is_rule, SETUP, False)

    def test_by_name(self):
        self.assertIs(is_rule(thing=(ROW,)), True)


if __name__ == "__main__":
    unittest.main()
