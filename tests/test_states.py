import random
import unittest

from fillchairs.beats import all_states, chairs_of, state_after, turned_away
from tests.plain import (
    EXAMPLE_RULE,
    EXAMPLE_SETUP,
    Plain,
    always,
    plain_chairs,
    plain_comers,
    some_cases,
    some_rule,
    some_setup,
)

FIRST = (0, (), 0, 0)


def rows_to_states(setup, rule, most=10**9):
    """A shortest row to each state, found by trying all comers behind all shorter ones."""
    comers = plain_comers(setup)
    rows = {FIRST: []}
    last = [FIRST]
    while last and len(rows) <= most:
        fresh = []
        for state in last:
            for more in comers:
                row = [*rows[state], more]
                _, after = plain_chairs(setup, rule, row)
                if after not in rows:
                    rows[after] = row
                    fresh.append(after)
        last = fresh
    return rows


def is_away(setup, rule, row):
    """For each beat of the row whether somebody is turned away."""
    return [chair[3] != (0, 0) for chair in plain_chairs(setup, rule, row)[0]]


def small_cases(seed, many):
    """Setups and rules by dice, with few enough states for a plain search."""
    dice = random.Random(seed)
    cases = []
    while len(cases) < many:
        setup = (
            tuple(dice.randint(1, 3) for _ in range(dice.randint(1, 2))),
            tuple(sorted(dice.sample(range(1, 5), dice.randint(1, 2)))),
            (dice.randint(1, 2), dice.randint(0, 2)),
            (dice.randint(0, 2), dice.randint(0, 1)),
        )
        cases.append((setup, some_rule(dice)))
    return cases


class TestAllStates(unittest.TestCase):
    def test_without_comers(self):
        setup = ((2,), (1, 2), (2, 2), (0, 0))
        self.assertEqual(all_states(setup, ()), [FIRST])
        self.assertEqual(all_states(setup, EXAMPLE_RULE), [FIRST])
        self.assertEqual(all_states(((2, 3), *setup[1:]), ()), [FIRST, (1, (), 0, 0)])

    def test_the_first_state_is_there_even_if_none_leads_back(self):
        setup = ((1,), (1,), (1, 0), (0, 0))
        self.assertEqual(all_states(setup, (always("go", 0, 1),)), [FIRST, (0, (), 0, 1)])
        rule = (always("go", 0, 2), always("go", 2, 1))
        self.assertEqual(all_states(setup, rule), [FIRST, (0, (), 0, 1), (0, (), 0, 2)])

    def test_without_rows_of_a_rule(self):
        setup = ((1,), (1, 3), (2, 1), (1, 1))
        lines = [(), (1,), (1, 1), (1, 3), (3,), (3, 1), (3, 3)]
        self.assertEqual(
            all_states(setup, ()), [(0, line, singles, 0) for line in lines for singles in (0, 1)]
        )

    def test_the_example(self):
        states = all_states(EXAMPLE_SETUP, EXAMPLE_RULE)
        self.assertEqual(states, sorted(rows_to_states(EXAMPLE_SETUP, EXAMPLE_RULE)))
        self.assertIn((0, (2,), 2, 0), states)
        self.assertNotIn((0, (1, 1), 0, 0), states)

    def test_parted_groups(self):
        setup = ((2,), (5,), (1, 0), (1, 0))
        self.assertEqual(
            all_states(setup, (always("part"),)),
            [FIRST, (0, (1,), 0, 0), (0, (3,), 0, 0)],
        )

    def test_two_chairs_and_moods(self):
        setup = ((1, 2), (2,), (1, 1), (1, 1))
        rule = (always("group", 0, 1), always("single", 1, 2), always("go", 2, 0))
        self.assertEqual(all_states(setup, rule), sorted(rows_to_states(setup, rule)))

    def test_against_a_plain_search(self):
        for setup, rule in small_cases(41, 60):
            rows = rows_to_states(setup, rule)
            states = all_states(setup, rule)
            self.assertEqual(states, sorted(rows), (setup, rule))
            self.assertEqual(states, sorted(set(states)))

    def test_against_all_rows_that_are_short(self):
        setup = ((2,), (1, 3), (1, 1), (1, 1))
        rule = (always("single"), always("part", 0, 1), always("group", 1, 0))
        rows = [[]]
        found = set()
        for _ in range(5):
            found |= {state_after(setup, rule, row) for row in rows}
            rows = [[*row, comers] for row in rows for comers in plain_comers(setup)]
        self.assertEqual(all_states(setup, rule), sorted(found))

    def test_the_largest(self):
        setup = ((1, 1), (3, 4, 5), (3, 4), (2, 2))
        rule = (always("part", 0, 1), always("single", 1, 2), always("part", 2, 0))
        states = all_states(setup, rule)
        self.assertEqual(states, sorted(set(states)))
        among = set(states)
        for state in states[:: len(states) // 40]:
            for comers in plain_comers(setup):
                plain = Plain(setup, rule)
                plain.turn, plain.singles, plain.mood = state[0], state[2], state[3]
                plain.line = list(state[1])
                plain.beat(comers)
                self.assertIn(plain.state(), among)

    def test_the_kinds_of_the_values(self):
        states = all_states(EXAMPLE_SETUP, EXAMPLE_RULE)
        self.assertIs(type(states), list)
        for state in states:
            self.assertEqual([type(part) for part in (state, *state)], [tuple, int, tuple, int, int])

    def test_the_list_is_new(self):
        states = all_states(EXAMPLE_SETUP, EXAMPLE_RULE)
        kept = list(states)
        states.clear()
        self.assertEqual(all_states(EXAMPLE_SETUP, EXAMPLE_RULE), kept)


class TestTurnedAway(unittest.TestCase):
    def shown(self, setup, rule, row, beats):
        """The row is one of the setup, so long, and its last beat alone turns somebody away."""
        self.assertIs(type(row), list, (setup, rule))
        self.assertEqual(len(row), beats, (setup, rule, row))
        comers = plain_comers(setup)
        self.assertTrue(all(entry in comers for entry in row))
        away = [chair[3] != (0, 0) for chair in chairs_of(setup, rule, row)]
        self.assertEqual(away, [False] * (beats - 1) + [True])
        self.assertEqual(is_away(setup, rule, row), away)

    def test_without_comers(self):
        for rule in ((), EXAMPLE_RULE):
            self.assertIsNone(turned_away(((2,), (1, 2), (1, 0), (0, 0)), rule))

    def test_chairs_that_always_make_room(self):
        rule = (always("group"), always("single"))
        self.assertIsNone(turned_away(((5,), (1, 2), (2, 1), (2, 1)), rule))
        self.assertIsNone(turned_away(((2,), (1,), (2, 0), (2, 0)), rule))
        self.assertIsNone(turned_away(((2,), (5,), (1, 2), (0, 2)), rule))
        self.assertIsNone(turned_away(((1, 3), (1,), (2, 0), (1, 0)), rule))

    def test_more_at_once_than_there_is_room_for(self):
        rule = (always("group"), always("single"))
        for setup in (((5,), (1,), (1, 0), (2, 0)), ((5,), (1,), (1, 0), (0, 1)), ((5,), (1,), (3, 1), (0, 2))):
            self.shown(setup, rule, turned_away(setup, rule), 1)

    def test_without_rows_of_a_rule(self):
        for rooms, coming, beats in (
            ((3, 0), (1, 0), 4),
            ((3, 0), (2, 0), 2),
            ((2, 0), (2, 0), 2),
            ((1, 4), (0, 1), 5),
            ((1, 4), (0, 2), 3),
            ((3, 4), (1, 1), 4),
            ((3, 1), (1, 1), 2),
        ):
            setup = ((5,), (1, 2), rooms, coming)
            self.shown(setup, (), turned_away(setup, ()), beats)

    def test_the_example(self):
        rows = rows_to_states(EXAMPLE_SETUP, EXAMPLE_RULE)
        shortest = min(
            len(row) + 1
            for row in rows.values()
            for comers in plain_comers(EXAMPLE_SETUP)
            if is_away(EXAMPLE_SETUP, EXAMPLE_RULE, [*row, comers])[-1]
        )
        row = turned_away(EXAMPLE_SETUP, EXAMPLE_RULE)
        self.shown(EXAMPLE_SETUP, EXAMPLE_RULE, row, shortest)

    def test_against_a_plain_search(self):
        nobody = 0
        longest = 0
        for setup, rule in small_cases(42, 80):
            comers = plain_comers(setup)
            lengths = [
                len(row) + 1
                for row in rows_to_states(setup, rule).values()
                if any(is_away(setup, rule, [*row, more])[-1] for more in comers)
            ]
            row = turned_away(setup, rule)
            if lengths:
                self.shown(setup, rule, row, min(lengths))
                longest = max(longest, len(row))
            else:
                self.assertIsNone(row, (setup, rule))
                nobody += 1
        self.assertGreater(nobody, 5)
        self.assertGreater(longest, 2)

    def test_wider_setups_by_dice(self):
        dice = random.Random(43)
        for _ in range(40):
            setup, rule = some_setup(dice), some_rule(dice)
            row = turned_away(setup, rule)
            if row is not None:
                self.shown(setup, rule, row, len(row))
        for setup, rule, row in some_cases(44, 200, 30):
            away = is_away(setup, rule, row)
            if True in away:
                self.assertLessEqual(len(turned_away(setup, rule)), away.index(True) + 1)

    def test_the_list_is_new(self):
        row = turned_away(EXAMPLE_SETUP, ())
        kept = list(row)
        row.clear()
        self.assertEqual(turned_away(EXAMPLE_SETUP, ()), kept)


if __name__ == "__main__":
    unittest.main()
