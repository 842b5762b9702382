import random
import unittest

from fillchairs.beats import all_states
from fillchairs.errors import BadStanding, BadState
from fillchairs.standings import all_standings, moves_of, standing_of
from tests.plain import EXAMPLE_RULE, EXAMPLE_SETUP, always, some_rule, some_setup
from tests.plain_long import every_standing, plain_moves, plain_standing
from tests.wrong import NO_INTEGERS, NO_TUPLES

SETUP = ((3, 2), (2, 4), (3, 2), (2, 1))
RULE = (always("single", 0, 1), always("group"), always("part", 1, 2), always("group", 2, 0))
ONE_CHAIR = ((3,), (2,), (1, 0), (1, 1))


def exchanged(thing, at, part):
    """A tuple with one of its parts exchanged."""
    return thing[:at] + (part,) + thing[at + 1 :]


class TestStandingOf(unittest.TestCase):
    def test_some(self):
        self.assertEqual(standing_of(SETUP, (0, (), 0, 0)), (0, 0, 0, 0, 0))
        self.assertEqual(standing_of(SETUP, (1, (), 2, 1)), (1, 0, 0, 2, 1))
        self.assertEqual(standing_of(SETUP, (0, (4,), 0, 2)), (0, 4, 0, 0, 2))
        self.assertEqual(standing_of(SETUP, (1, (2, 4), 1, 0)), (1, 2, 1, 1, 0))
        self.assertEqual(standing_of(SETUP, (1, (4, 2, 2), 2, 2)), (1, 4, 2, 2, 2))

    def test_sizes_that_the_setup_does_not_have(self):
        self.assertEqual(standing_of(SETUP, (0, (1,), 0, 0)), (0, 1, 0, 0, 0))
        self.assertEqual(standing_of(SETUP, (0, (5, 3, 1), 0, 0)), (0, 5, 2, 0, 0))
        for size in range(1, 6):
            self.assertEqual(standing_of(ONE_CHAIR, (0, (size,), 0, 0)), (0, size, 0, 0, 0))

    def test_all_states_of_rows(self):
        dice = random.Random(51)
        for _ in range(60):
            setup, rule = some_setup(dice), some_rule(dice)
            for state in all_states(setup, rule)[::7]:
                self.assertEqual(standing_of(setup, state), plain_standing(state))

    def test_kinds(self):
        standing = standing_of(SETUP, (1, (2, 4), 1, 0))
        self.assertIs(type(standing), tuple)
        self.assertEqual([type(part) for part in standing], [int] * 5)

    def bad(self, state, setup=SETUP):
        with self.subTest(repr(state)):
            with self.assertRaises(BadState) as caught:
                standing_of(setup, state)
            self.assertNotIsInstance(caught.exception, BadStanding)

    def test_no_tuple(self):
        for state in NO_TUPLES:
            self.bad(state)
        self.bad([0, (2,), 1, 0])

    def test_too_few_or_too_many_parts(self):
        self.bad(())
        self.bad((0, (2,), 1))
        self.bad((0, (2,), 1, 0, 0))
        self.bad((0, 2, 0, 1, 0))

    def test_wrong_turns(self):
        for turn in (*NO_INTEGERS, -1, 2, 3, 10**59):
            self.bad((turn, (2,), 1, 0))
        self.bad((1, (2,), 0, 0), ONE_CHAIR)

    def test_wrong_lines(self):
        for line in (*NO_TUPLES, [2], "24", (2, 2, 2, 2), (0,), (6,), (-1,), (2, 0), (2, 2, 6), (10**59,)):
            self.bad((0, line, 1, 0))
        for size in NO_INTEGERS:
            self.bad((0, (size,), 1, 0))
            self.bad((0, (2, size), 1, 0))
        self.bad((0, (2, 2), 0, 0), ONE_CHAIR)

    def test_wrong_singles(self):
        for singles in (*NO_INTEGERS, -1, 3, 10**59):
            self.bad((0, (2,), singles, 0))
        self.bad((0, (2,), 1, 0), ONE_CHAIR)

    def test_wrong_moods(self):
        for mood in (*NO_INTEGERS, -1, 3, 10**59):
            self.bad((0, (2,), 1, mood))


class TestMovesOf(unittest.TestCase):
    def test_the_example(self):
        # Behind the group of 1 is another one, and both sit, or one of 2, and a single sits or a seat is lost.
        self.assertEqual(moves_of(EXAMPLE_SETUP, EXAMPLE_RULE, (0, 1, 1, 0, 0)), [
            (0, (0, 0, 0, 0, 0)),
            (0, (0, 0, 0, 1, 0)),
            (0, (0, 2, 0, 0, 0)),
            (1, (0, 2, 0, 0, 0)),
        ])

    def test_told_by_hand(self):
        setup = ((2,), (1, 3), (1, 0), (1, 0))
        self.assertEqual(moves_of(setup, (), (0, 0, 0, 0, 0)), [
            (0, (0, 0, 0, 0, 0)),
            (2, (0, 1, 0, 0, 0)),
            (2, (0, 3, 0, 0, 0)),
        ])
        self.assertEqual(moves_of(setup, (), (0, 5, 0, 0, 2)), [(2, (0, 5, 0, 0, 2))])
        rule = (always("group", 0, 1), always("part"))
        self.assertEqual(moves_of(setup, rule, (0, 0, 0, 0, 0)), [
            (0, (0, 0, 0, 0, 0)),
            (0, (0, 0, 0, 0, 1)),
            (0, (0, 1, 0, 0, 0)),
        ])

    def test_all_standings_of_a_setup(self):
        for rule in (RULE, (), (always("part", 0, 2), always("single", 2, 0))):
            for standing in every_standing(SETUP):
                self.assertEqual(moves_of(SETUP, rule, standing), plain_moves(SETUP, rule, standing), standing)

    def test_setups_and_rules_by_dice(self):
        dice = random.Random(52)
        for _ in range(60):
            setup, rule = some_setup(dice), some_rule(dice)
            standings = every_standing(setup)
            for standing in dice.sample(standings, min(3, len(standings))):
                moves = moves_of(setup, rule, standing)
                self.assertEqual(moves, plain_moves(setup, rule, standing), (setup, rule, standing))
                self.assertEqual(moves, sorted(set(moves)))

    def test_no_comers(self):
        setup = ((3,), (1, 2), (3, 2), (0, 0))
        self.assertEqual(moves_of(setup, (always("group"),), (0, 2, 2, 1, 0)), [
            (0, (0, 1, 0, 1, 0)),
            (0, (0, 2, 0, 1, 0)),
            (1, (0, 2, 1, 1, 0)),
        ])
        self.assertEqual(moves_of(setup, (always("group"),), (0, 3, 1, 0, 0)), [
            (0, (0, 1, 0, 0, 0)),
            (0, (0, 2, 0, 0, 0)),
        ])

    def test_kinds(self):
        moves = moves_of(SETUP, RULE, (0, 4, 2, 1, 0))
        self.assertIs(type(moves), list)
        for move in moves:
            lost, standing = move
            self.assertEqual((type(move), type(lost), type(standing)), (tuple, int, tuple))
            self.assertEqual([type(part) for part in standing], [int] * 5)

    def bad(self, standing, setup=SETUP):
        with self.subTest(repr(standing)):
            with self.assertRaises(BadStanding) as caught:
                moves_of(setup, RULE, standing)
            self.assertNotIsInstance(caught.exception, BadState)

    def test_no_tuple(self):
        for standing in NO_TUPLES:
            self.bad(standing)
        self.bad([0, 2, 1, 1, 0])

    def test_too_few_or_too_many_parts(self):
        self.bad(())
        self.bad((0, 2, 1, 1))
        self.bad((0, 2, 1, 1, 0, 0))
        self.bad((0, (2,), 1, 0))

    def test_each_part_wrong(self):
        right = (0, 2, 1, 1, 0)
        moves_of(SETUP, RULE, right)
        wrong = ((-1, 2, 3), (-1, 6, 7), (-1, 3, 4), (-1, 3, 4), (-1, 3, 4))
        for at, parts in enumerate(wrong):
            for part in (*parts, *NO_INTEGERS, 10**59, -(10**59)):
                self.bad(exchanged(right, at, part))

    def test_bounds_hang_on_the_setup(self):
        moves_of(ONE_CHAIR, RULE, (0, 5, 0, 0, 2))
        self.bad((1, 2, 0, 0, 0), ONE_CHAIR)
        self.bad((0, 2, 1, 0, 0), ONE_CHAIR)
        self.bad((0, 2, 0, 1, 0), ONE_CHAIR)

    def test_behind_without_a_front(self):
        moves_of(SETUP, RULE, (0, 0, 0, 2, 0))
        for behind in (1, 2, 3, -1, False, None):
            self.bad((0, 0, behind, 2, 0))

    def test_too_many_behind(self):
        moves_of(SETUP, RULE, (0, 1, 2, 0, 0))
        self.bad((0, 1, 3, 0, 0))


class TestAllStandings(unittest.TestCase):
    def test_without_comers(self):
        self.assertEqual(all_standings(((2,), (1,), (1, 1), (0, 0)), ()), [(0, 0, 0, 0, 0)])
        self.assertEqual(
            all_standings(((2, 3), (1,), (1, 1), (0, 0)), (always("go", 0, 1),)),
            [(0, 0, 0, 0, 0), (0, 0, 0, 0, 1), (1, 0, 0, 0, 1)],
        )

    def test_the_example(self):
        standings = all_standings(EXAMPLE_SETUP, EXAMPLE_RULE)
        self.assertIn((0, 2, 0, 2, 0), standings)
        self.assertIn((0, 1, 0, 0, 0), standings)
        self.assertNotIn((0, 1, 1, 0, 0), standings)

    def test_parted_groups(self):
        setup = ((2,), (5,), (1, 0), (1, 0))
        self.assertEqual(all_standings(setup, (always("part"),)), [
            (0, 0, 0, 0, 0),
            (0, 1, 0, 0, 0),
            (0, 3, 0, 0, 0),
        ])

    def test_against_all_states(self):
        dice = random.Random(53)
        for _ in range(80):
            setup, rule = some_setup(dice), some_rule(dice)
            standings = all_standings(setup, rule)
            found = {standing_of(setup, state) for state in all_states(setup, rule)}
            self.assertEqual(standings, sorted(found), (setup, rule))

    def test_moves_lead_from_one_to_another(self):
        dice = random.Random(54)
        for _ in range(40):
            setup, rule = some_setup(dice), some_rule(dice)
            standings = all_standings(setup, rule)
            reached = {(0, 0, 0, 0, 0)}
            for standing in standings:
                after = {after for _, after in moves_of(setup, rule, standing)}
                self.assertLessEqual(after, set(standings), (setup, rule, standing))
                reached |= after
            self.assertEqual(sorted(reached), standings)

    def test_the_largest(self):
        setup = ((5, 5), (3, 4, 5), (3, 4), (2, 2))
        rule = (always("part", 0, 1), always("single", 1, 2), always("part", 2, 0))
        standings = all_standings(setup, rule)
        self.assertEqual(standings, sorted({standing_of(setup, state) for state in all_states(setup, rule)}))
        for standing in standings[::30]:
            self.assertEqual(moves_of(setup, rule, standing), plain_moves(setup, rule, standing))


if __name__ == "__main__":
    unittest.main()
