import random
import unittest

from fillchairs.back import next_seen, row_back, rows_counted, sizes_back, states_back
from fillchairs.errors import BadRule, BadSeen, BadSetup
from tests.plain import (
    EXAMPLE_RULE,
    EXAMPLE_SETUP,
    always,
    busy_rule,
    plain_chairs,
    plain_comers,
    small_setup,
    some_row,
    some_rule,
)
from tests.plain_long import FIRST, plain_beat
from tests.plain_pairs import rows_by_seen, seen_of, sizes_let_in
from tests.wrong import NO_LISTS, NO_RULES, NO_SETUPS, NO_TUPLES

ALL = (states_back, row_back, next_seen, rows_counted, sizes_back)
GROUP_OF_1 = ((("group", 1),), 1)
GROUP_OF_2 = ((("group", 2),), 0)


def small_cases(seed, many):
    dice = random.Random(seed)
    return [(small_setup(dice, 1, 2), dice.choice((busy_rule, some_rule))(dice)) for _ in range(many)]


def some_sight(dice, setup):
    """Something that can be seen of some chair, by dice."""
    deeds = []
    for _ in range(dice.randint(0, 2)):
        name = dice.choice(("group", "single", "part"))
        deeds.append((name, 1 if name == "single" else dice.choice(setup[1])))
    return (tuple(deeds), dice.randint(0, max(setup[0])))


class TestAllRows(unittest.TestCase):
    """All that is told back, against all rows of a few beats, told beat by beat."""

    def check(self, setup, rule, seen, found):
        states = sorted({state for _, _, state in found})
        self.assertEqual(states_back(setup, rule, list(seen)), states, (setup, rule, seen))
        self.assertEqual(rows_counted(setup, rule, list(seen)), len(found))
        sizes = sorted({sizes_let_in(row, chairs) for row, chairs, _ in found})
        self.assertEqual(sizes_back(setup, rule, list(seen)), sizes)
        row = row_back(setup, rule, list(seen))
        if found:
            self.assertIn(row, [row for row, _, _ in found])
        else:
            self.assertIsNone(row)
        afters = {
            plain_beat(setup, rule, state, comers)[0][:2] for state in states for comers in plain_comers(setup)
        }
        self.assertEqual(next_seen(setup, rule, list(seen)), sorted(afters))

    def test_rows_of_few_beats(self):
        for setup, rule in small_cases(381, 25):
            for beats in range(4 if len(plain_comers(setup)) < 7 else 3):
                for seen, found in rows_by_seen(setup, rule, beats).items():
                    self.check(setup, rule, seen, found)

    def test_what_no_row_shows(self):
        dice = random.Random(382)
        empty = 0
        for setup, rule in small_cases(383, 40):
            known = rows_by_seen(setup, rule, 2)
            for _ in range(20):
                seen = (some_sight(dice, setup), some_sight(dice, setup))
                empty += seen not in known
                self.check(setup, rule, seen, known.get(seen, []))
        self.assertGreater(empty, 100)

    def test_the_counts_of_the_next_chairs_add_up(self):
        dice = random.Random(384)
        for setup, rule in small_cases(385, 60):
            comers = len(plain_comers(setup))
            chairs, _ = plain_chairs(setup, rule, some_row(dice, setup, dice.randint(0, 29)))
            seen = list(seen_of(chairs))
            together = sum(rows_counted(setup, rule, [*seen, sight]) for sight in next_seen(setup, rule, seen))
            self.assertEqual(together, rows_counted(setup, rule, seen) * comers)

    def test_longer_rows(self):
        dice = random.Random(386)
        for setup, rule in small_cases(387, 60):
            row = some_row(dice, setup, dice.randint(10, 30))
            chairs, state = plain_chairs(setup, rule, row)
            seen = list(seen_of(chairs))
            self.assertIn(state, states_back(setup, rule, seen))
            self.assertGreaterEqual(rows_counted(setup, rule, seen), 1)
            self.assertIn(sizes_let_in(row, chairs), sizes_back(setup, rule, seen))
            found = row_back(setup, rule, seen)
            self.assertEqual(list(seen_of(plain_chairs(setup, rule, found)[0])), seen)
            for place, chair in enumerate(chairs):
                self.assertIn(chair[:2], next_seen(setup, rule, seen[:place]))


class TestByHand(unittest.TestCase):
    def test_the_example(self):
        seen = [GROUP_OF_1, GROUP_OF_2]
        self.assertEqual(states_back(EXAMPLE_SETUP, EXAMPLE_RULE, [GROUP_OF_1]), [
            (0, (), 0, 0),
            (0, (2,), 0, 0),
        ])
        self.assertEqual(rows_counted(EXAMPLE_SETUP, EXAMPLE_RULE, [GROUP_OF_1]), 2)
        self.assertEqual(sizes_back(EXAMPLE_SETUP, EXAMPLE_RULE, [GROUP_OF_1]), [(1,), (1, 2)])
        self.assertEqual(sizes_back(EXAMPLE_SETUP, EXAMPLE_RULE, seen), [(1, 2), (1, 2, 1), (1, 2, 2)])
        row = row_back(EXAMPLE_SETUP, EXAMPLE_RULE, seen)
        self.assertEqual(seen_of(plain_chairs(EXAMPLE_SETUP, EXAMPLE_RULE, row)[0]), tuple(seen))

    def test_no_chairs(self):
        self.assertEqual(states_back(EXAMPLE_SETUP, EXAMPLE_RULE, []), [FIRST])
        self.assertEqual(row_back(EXAMPLE_SETUP, EXAMPLE_RULE, []), [])
        self.assertEqual(rows_counted(EXAMPLE_SETUP, EXAMPLE_RULE, []), 1)
        self.assertEqual(sizes_back(EXAMPLE_SETUP, EXAMPLE_RULE, []), [()])
        self.assertEqual(next_seen(((1,), (1,), (1, 1), (0, 0)), (), []), [((), 1)])

    def test_chairs_that_no_row_shows(self):
        for seen in ([((), 1)], [((("group", 5),), 0)], [((), 2)] * 3 + [((), 0)], [((("part", 1),), 0)] * 30):
            self.assertEqual(states_back(EXAMPLE_SETUP, EXAMPLE_RULE, seen), [])
            self.assertIsNone(row_back(EXAMPLE_SETUP, EXAMPLE_RULE, seen))
            self.assertEqual(rows_counted(EXAMPLE_SETUP, EXAMPLE_RULE, seen), 0)
            self.assertEqual(sizes_back(EXAMPLE_SETUP, EXAMPLE_RULE, seen), [])
            self.assertEqual(next_seen(EXAMPLE_SETUP, EXAMPLE_RULE, seen), [])

    def test_groups_that_are_parted(self):
        # A group of 5 sits in three chairs of 2 seats; who is behind it is not seen.
        setup, rule = ((2,), (4, 5), (2, 0), (1, 0)), (always("part"), always("group"))
        part = ((("part", 2),), 0)
        self.assertEqual(sizes_back(setup, rule, [part, part]), [(5,), (5, 4), (5, 5)])
        self.assertEqual(sizes_back(setup, rule, [part]), [(4,), (5,)])
        last = ((("group", 1), ("part", 1)), 0)
        self.assertEqual(sizes_back(setup, rule, [part, part, last]), [(5, 4), (5, 5)])
        self.assertEqual(sizes_back(setup, rule, [part, ((("group", 2),), 0)]), [(4,), (4, 4), (4, 5)])

    def test_groups_that_are_turned_away(self):
        # Two groups come and only one is let in.
        setup = ((1,), (2, 3), (1, 0), (2, 0))
        self.assertEqual(sizes_back(setup, (), [((), 1)]), [(), (2,), (3,)])
        self.assertEqual(rows_counted(setup, (), [((), 1)]), 7)

    def test_thirty_chairs(self):
        setup, rule = ((3,), (1, 2), (2, 1), (1, 1)), (always("group"), always("part"), always("single"))
        empty = [((), 3)] * 30
        self.assertEqual(rows_counted(setup, (), empty), 6**30)
        self.assertEqual(len(states_back(setup, (), empty)), 14)
        self.assertEqual(len(sizes_back(setup, (), empty)), 7)
        self.assertEqual(len(row_back(setup, (), empty)), 30)
        self.assertEqual(rows_counted(setup, rule, empty), 1)
        self.assertEqual(sizes_back(setup, rule, empty), [()])
        self.assertEqual(row_back(setup, rule, empty), [((), 0)] * 30)
        full = [((("group", 2), ("single", 1)), 0)] * 30
        self.assertEqual(sizes_back(setup, rule, full), [(2,) * 30])

    def test_thirty_chairs_with_all_numbers_at_their_bounds(self):
        setup = ((5, 4), (1, 3, 5), (3, 4), (2, 2))
        seen = [((), 5), ((), 4)] * 15
        self.assertEqual(rows_counted(setup, (), seen), 39**30)
        self.assertEqual(len(sizes_back(setup, (), seen)), 40)

    def test_kinds(self):
        seen = [GROUP_OF_1]
        kinds = {states_back: list, row_back: list, next_seen: list, rows_counted: int, sizes_back: list}
        for call, kind in kinds.items():
            self.assertIs(type(call(EXAMPLE_SETUP, EXAMPLE_RULE, seen)), kind)
        for sight in next_seen(EXAMPLE_SETUP, EXAMPLE_RULE, seen):
            self.assertEqual([type(part) for part in sight], [tuple, int])
        for sizes in sizes_back(EXAMPLE_SETUP, EXAMPLE_RULE, seen):
            self.assertIs(type(sizes), tuple)


class TestBadSeen(unittest.TestCase):
    def test_what_is_none(self):
        right = ((("group", 1), ("single", 1)), 0)
        wrong = [
            *NO_TUPLES,
            (),
            ((),),
            ((), 0, 0),
            [(), 0],
            ([], 0),
            ((["group", 1],), 0),
            ((("group", 1),) * 6, 0),
            ((("single", 1),) * 6, 0),
            ((), -1),
            ((), 6),
            ((), 10**59),
            ((), True),
            ((), False),
            ((), None),
            ((), "0"),
            ((("group", 0),), 0),
            ((("group", 6),), 0),
            ((("group", -1),), 0),
            ((("group", True),), 0),
            ((("group", "1"),), 0),
            ((("part", 0),), 0),
            ((("part", 6),), 0),
            ((("part", True),), 0),
            ((("single", 0),), 0),
            ((("single", 2),), 0),
            ((("single", True),), 0),
            ((("go", 1),), 0),
            ((("Group", 1),), 0),
            ((("groups", 1),), 0),
            ((("", 1),), 0),
            (((b"group", 1),), 0),
            (((None, 1),), 0),
            ((((), 1),), 0),
            ((("group",),), 0),
            ((("group", 1, 1),), 0),
            (("group", 1), 0),
            ((None,), 0),
            ("", 0),
            ({}, 0),
            (None, 0),
            ((("group", 1),), 0, (0, 0)),
            ((("group", 1),), 1, 1, (0, 0)),
        ]
        for call in ALL:
            for sight in wrong:
                for seen in ([sight], [right, sight], [sight, right], [right] * 29 + [sight]):
                    with self.assertRaises(BadSeen):
                        call(EXAMPLE_SETUP, EXAMPLE_RULE, seen)

    def test_what_is_one(self):
        for sight in (
            ((), 0),
            ((), 5),
            ((("group", 5),), 5),
            ((("part", 5),) * 5, 5),
            ((("single", 1),) * 5, 0),
            ((("part", 1), ("group", 1)), 0),
        ):
            for call in ALL:
                call(EXAMPLE_SETUP, EXAMPLE_RULE, [sight] * 30)

    def test_what_is_no_list(self):
        for call in ALL:
            for seen in (*NO_LISTS, (GROUP_OF_1,), GROUP_OF_1):
                with self.assertRaises(BadSeen):
                    call(EXAMPLE_SETUP, EXAMPLE_RULE, seen)

    def test_thirty_and_thirty_one_chairs(self):
        for call in ALL:
            call(EXAMPLE_SETUP, EXAMPLE_RULE, [((), 2)] * 30)
            for many in (31, 32, 300):
                with self.assertRaises(BadSeen):
                    call(EXAMPLE_SETUP, EXAMPLE_RULE, [((), 2)] * many)

    def test_errors_in_order(self):
        for call in ALL:
            for wrong in NO_SETUPS:
                with self.assertRaises(BadSetup):
                    call(wrong, None, None)
            for wrong in NO_RULES:
                with self.assertRaises(BadRule):
                    call(EXAMPLE_SETUP, wrong, None)


if __name__ == "__main__":
    unittest.main()
