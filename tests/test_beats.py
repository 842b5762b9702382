import unittest

from fillchairs.beats import chairs_of, state_after
from tests.plain import EXAMPLE_RULE, EXAMPLE_SETUP, WIDE, always, plain_chairs, some_cases

NONE_AWAY = (0, 0)
NOBODY = ((), 0)
NOTHING = ((), 3, 0, NONE_AWAY)


def setup_of(seats=(3,), sizes=(1, 2, 5), rooms=(3, 4), comers=(2, 2)):
    return (seats, sizes, rooms, comers)


class Beats(unittest.TestCase):
    def beats(self, setup, rule, *told):
        """Each of told is comers, the chair of their beat and the state after it."""
        row = [comers for comers, _, _ in told]
        self.assertEqual(chairs_of(setup, rule, row), [chair for _, chair, _ in told])
        for at in range(len(told)):
            self.assertEqual(state_after(setup, rule, row[: at + 1]), told[at][2])

    def chair(self, setup, rule, comers, deeds, empty):
        """The first chair of these comers has these deeds and so many empty seats."""
        chair = chairs_of(setup, rule, [comers])[0]
        self.assertEqual(chair[:2], (deeds, empty))


class TestWithoutRows(Beats):
    def test_every_chair_goes_empty(self):
        self.beats(
            setup_of(),
            (),
            (NOBODY, ((), 3, 0, NONE_AWAY), (0, (), 0, 0)),
            (((1,), 0), ((), 3, 3, NONE_AWAY), (0, (1,), 0, 0)),
            (((5, 2), 2), ((), 3, 3, NONE_AWAY), (0, (1, 5, 2), 2, 0)),
            (NOBODY, ((), 3, 3, NONE_AWAY), (0, (1, 5, 2), 2, 0)),
        )

    def test_no_beats(self):
        for rule in ((), EXAMPLE_RULE, (always("go", 0, 1),)):
            self.assertEqual(chairs_of(EXAMPLE_SETUP, rule, []), [])
            self.assertEqual(state_after(EXAMPLE_SETUP, rule, []), (0, (), 0, 0))


class TestDeeds(Beats):
    def test_group(self):
        rule = (always("group"),)
        setup = setup_of()
        self.chair(setup, rule, NOBODY, (), 3)
        self.chair(setup, rule, ((), 2), (), 3)
        self.chair(setup, rule, ((1,), 0), (("group", 1),), 2)
        self.chair(setup, rule, ((1, 2), 1), (("group", 1), ("group", 2)), 0)
        self.chair(setup, rule, ((2, 2), 0), (("group", 2),), 1)
        self.chair(setup, rule, ((5,), 0), (), 3)
        # The one behind a group that is too large does not sit.
        self.chair(setup, rule, ((5, 1), 0), (), 3)

    def test_group_as_large_as_the_chair(self):
        self.chair(setup_of(seats=(5,)), (always("group"),), ((5, 1), 0), (("group", 5),), 0)
        self.chair(setup_of(seats=(4,)), (always("group"),), ((5, 1), 0), (), 4)

    def test_single(self):
        rule = (always("single"),)
        self.chair(setup_of(), rule, NOBODY, (), 3)
        self.chair(setup_of(), rule, ((1, 2), 0), (), 3)
        self.chair(setup_of(), rule, ((), 1), (("single", 1),), 2)
        self.chair(setup_of(), rule, ((5,), 2), (("single", 1), ("single", 1)), 1)

    def test_single_only_while_a_seat_is_free(self):
        self.beats(
            setup_of(seats=(1,)),
            (always("single"),),
            (((), 2), ((("single", 1),), 0, 0, NONE_AWAY), (0, (), 1, 0)),
            (NOBODY, ((("single", 1),), 0, 0, NONE_AWAY), (0, (), 0, 0)),
            (NOBODY, ((), 1, 0, NONE_AWAY), (0, (), 0, 0)),
        )

    def test_part(self):
        rule = (always("part"),)
        self.chair(setup_of(), rule, NOBODY, (), 3)
        self.chair(setup_of(), rule, ((), 2), (), 3)
        self.chair(setup_of(), rule, ((2, 5), 0), (), 3)
        self.chair(setup_of(), rule, ((5, 2), 1), (("part", 3),), 0)

    def test_part_not_of_a_group_that_fits(self):
        self.chair(setup_of(seats=(2,)), (always("part"),), ((2,), 0), (), 2)
        self.chair(setup_of(seats=(1,)), (always("part"),), ((2,), 0), (("part", 1),), 0)

    def test_part_not_without_a_free_seat(self):
        rule = (always("single"), always("part"))
        self.chair(setup_of(seats=(2,)), rule, ((5,), 2), (("single", 1), ("single", 1)), 0)
        rule = (always("part"), always("single"), always("group"))
        self.chair(setup_of(seats=(2,)), rule, ((5, 5), 2), (("part", 2),), 0)

    def test_part_behind_a_group(self):
        rule = (always("group"), always("part"))
        self.beats(
            setup_of(),
            rule,
            (((2, 2), 0), ((("group", 2), ("part", 1)), 0, 0, NONE_AWAY), (0, (1,), 0, 0)),
            (NOBODY, ((("group", 1),), 2, 0, NONE_AWAY), (0, (), 0, 0)),
        )

    def test_one_group_parted_over_several_chairs(self):
        self.beats(
            setup_of(seats=(2,)),
            (always("part"),),
            (((5, 1), 0), ((("part", 2),), 0, 0, NONE_AWAY), (0, (3, 1), 0, 0)),
            (NOBODY, ((("part", 2),), 0, 0, NONE_AWAY), (0, (1, 1), 0, 0)),
            (NOBODY, ((), 2, 2, NONE_AWAY), (0, (1, 1), 0, 0)),
        )
        self.beats(
            setup_of(seats=(1, 2)),
            (always("part"), always("group")),
            (((5,), 0), ((("part", 1),), 0, 0, NONE_AWAY), (1, (4,), 0, 0)),
            (((2,), 0), ((("part", 2),), 0, 0, NONE_AWAY), (0, (2, 2), 0, 0)),
            (NOBODY, ((("part", 1),), 0, 0, NONE_AWAY), (1, (1, 2), 0, 0)),
            (NOBODY, ((("group", 1), ("part", 1)), 0, 0, NONE_AWAY), (0, (1,), 0, 0)),
            (NOBODY, ((("group", 1),), 0, 0, NONE_AWAY), (1, (), 0, 0)),
        )

    def test_go(self):
        self.chair(setup_of(), (always("go"), always("group")), ((1,), 1), (), 3)
        self.chair(setup_of(), (always("single"), always("go"), always("group")), ((1,), 1), (("single", 1),), 2)
        self.chair(setup_of(), (always("go"),), NOBODY, (), 3)

    def test_go_is_carried_out_in_a_full_chair_too(self):
        rule = (always("group"), (0, WIDE, (0, 0), WIDE, "go", 2))
        self.assertEqual(state_after(setup_of(seats=(2,)), rule, [((2,), 0)]), (0, (), 0, 2))
        self.assertEqual(state_after(setup_of(seats=(2,)), rule, [((1,), 0)]), (0, (), 0, 0))

    def test_the_first_row_that_fits(self):
        both = ((1, 1), 1)
        setup = setup_of(seats=(2,))
        self.chair(setup, (always("group"), always("single")), both, (("group", 1), ("group", 1)), 0)
        self.chair(setup, (always("single"), always("group")), both, (("single", 1), ("group", 1)), 0)

    def test_the_search_begins_anew_after_each_row(self):
        rule = ((0, WIDE, (1, 1), WIDE, "group", 0), always("single"))
        self.chair(setup_of(seats=(2,)), rule, ((1,), 2), (("single", 1), ("group", 1)), 0)

    def test_a_row_carried_out_several_times(self):
        self.chair(setup_of(seats=(5,)), (always("single"),), ((), 2), (("single", 1),) * 2, 3)
        self.chair(setup_of(seats=(5,)), (always("group"),), ((2, 2), 0), (("group", 2),) * 2, 1)
        setup = setup_of(seats=(1, 5))
        row = [((1, 1), 2), ((1, 1), 2)]
        rule = ((0, WIDE, (2, 9), WIDE, "group", 0), (0, WIDE, (2, 9), WIDE, "single", 0))
        self.assertEqual(
            chairs_of(setup, rule, row)[1],
            ((("group", 1),) * 3 + (("single", 1),), 1, 1, (1, 0)),
        )


class TestRanges(Beats):
    def does(self, setup, rule, comers, count):
        """The first chair of these comers has so many deeds."""
        self.assertEqual(len(chairs_of(setup, rule, [comers])[0][0]), count)

    def test_front(self):
        setup = setup_of(seats=(5,), sizes=(2, 3, 5))
        for low, high, fitting in ((2, 3, (2, 3)), (3, 5, (3, 5)), (2, 2, (2,)), (4, 4, ()), (0, 1, ())):
            rule = ((0, (low, high), WIDE, WIDE, "group", 0),)
            for size in (2, 3, 5):
                with self.subTest(f"{low}-{high} {size}"):
                    self.does(setup, rule, ((size,), 0), 1 if size in fitting else 0)

    def test_front_of_an_empty_line_is_zero(self):
        setup = setup_of(seats=(2,), sizes=(1, 2))
        zero = ((0, (0, 0), WIDE, WIDE, "single", 0),)
        self.does(setup, zero, ((), 1), 1)
        self.does(setup, zero, ((1,), 1), 0)
        from_one = ((0, (1, 9), WIDE, WIDE, "single", 0),)
        self.does(setup, from_one, ((), 1), 0)
        self.does(setup, from_one, ((1,), 1), 1)
        # After the last group sits, the size in front is 0 again.
        rule = (always("group"), (0, (0, 0), WIDE, WIDE, "single", 0))
        self.does(setup, rule, ((1,), 1), 2)

    def test_front_is_what_remains_of_a_parted_group(self):
        setup = setup_of(seats=(2,), sizes=(1, 5))
        rule = (always("part", 0, 1), (1, (3, 3), WIDE, WIDE, "go", 2))
        self.assertEqual(state_after(setup, rule, [((5,), 0)]), (0, (3,), 0, 2))
        rule = (always("part", 0, 1), (1, (5, 5), WIDE, WIDE, "go", 2))
        self.assertEqual(state_after(setup, rule, [((5,), 0)]), (0, (3,), 0, 1))

    def test_left(self):
        for low, high, fitting in ((2, 3, (2, 3)), (3, 3, (3,)), (4, 9, (4, 5)), (0, 1, (1,)), (6, 9, ())):
            rule = ((0, WIDE, (low, high), WIDE, "single", 1),)
            for seats in range(1, 6):
                with self.subTest(f"{low}-{high} {seats}"):
                    self.does(setup_of(seats=(seats,)), rule, ((), 1), 1 if seats in fitting else 0)

    def test_left_goes_down(self):
        rule = ((0, WIDE, (3, 9), WIDE, "single", 0),)
        self.does(setup_of(seats=(4,)), rule, ((), 2), 2)
        self.does(setup_of(seats=(3,)), rule, ((), 2), 1)
        rule = ((0, WIDE, (3, 9), WIDE, "group", 0),)
        self.does(setup_of(seats=(5,)), rule, ((2, 2), 0), 2)
        self.does(setup_of(seats=(4,)), rule, ((2, 2), 0), 1)

    def test_waiting(self):
        setup = setup_of(seats=(1,), sizes=(1, 2))
        for low, high, fitting in ((1, 2, (1, 2)), (0, 0, (0,)), (2, 3, (2, 3)), (3, 3, (3,)), (5, 9, ())):
            rule = ((0, WIDE, WIDE, (low, high), "group", 0),)
            for singles in range(4):
                early = min(singles, 2)
                row = [((), early), ((1,), singles - early)]
                with self.subTest(f"{low}-{high} {singles}"):
                    chair = chairs_of(setup, rule, row)[-1]
                    self.assertEqual(len(chair[0]), 1 if singles in fitting else 0)

    def test_waiting_goes_down(self):
        rule = ((0, WIDE, WIDE, (2, 9), "single", 0),)
        self.does(setup_of(seats=(5,)), rule, ((), 2), 1)
        rule = ((0, WIDE, WIDE, (1, 9), "single", 0),)
        self.does(setup_of(seats=(5,)), rule, ((), 2), 2)

    def test_all_of_a_row_must_fit(self):
        fits = (0, (2, 2), (3, 3), (1, 1), "group", 0)
        self.does(setup_of(), (fits,), ((2,), 1), 1)
        for at, other in ((0, 1), (1, (0, 1)), (1, (3, 9)), (2, (0, 2)), (2, (4, 9)), (3, (0, 0)), (3, (2, 9))):
            row = (*fits[:at], other, *fits[at + 1 :])
            with self.subTest(repr(row)):
                self.does(setup_of(), (row,), ((2,), 1), 0)


class TestMoods(Beats):
    def test_the_mood_after_each_row(self):
        rule = (
            always("single", 0, 1),
            always("group", 1, 2),
            always("single", 2, 0),
            always("go", 1, 1),
        )
        setup = setup_of(seats=(5,), sizes=(1, 2))
        deeds = (("single", 1), ("group", 1), ("single", 1))
        self.beats(
            setup,
            rule,
            (((1, 1), 2), (deeds, 2, 2, NONE_AWAY), (0, (1,), 0, 0)),
            (((), 1), ((("single", 1), ("group", 1)), 3, 0, NONE_AWAY), (0, (), 0, 2)),
            (((), 2), ((("single", 1),) * 2, 3, 0, NONE_AWAY), (0, (), 0, 1)),
            (((1,), 1), ((("group", 1), ("single", 1)), 3, 0, NONE_AWAY), (0, (), 0, 0)),
        )

    def test_the_mood_after_part_and_go(self):
        setup = setup_of(seats=(2,), sizes=(1, 5))
        self.assertEqual(state_after(setup, (always("part", 0, 2),), [((5,), 0)]), (0, (3,), 0, 2))
        self.assertEqual(state_after(setup, (always("go", 0, 1),), [NOBODY]), (0, (), 0, 1))
        rule = (always("go", 0, 1), always("go", 1, 2), always("go", 2, 0))
        for beats, mood in ((1, 1), (2, 2), (3, 0), (4, 1)):
            self.assertEqual(state_after(setup, rule, [NOBODY] * beats), (0, (), 0, mood))

    def test_the_mood_stays_where_no_row_fits(self):
        rule = (always("single", 0, 2), always("group", 1, 0))
        setup = setup_of()
        self.assertEqual(state_after(setup, rule, [((), 1), ((1,), 1), NOBODY]), (0, (1,), 1, 2))

    def test_rows_of_another_mood_do_not_fit(self):
        for mood in (1, 2):
            self.chair(setup_of(), (always("group", mood, mood),), ((1,), 0), (), 3)


class TestTurns(Beats):
    def test_one_chair(self):
        for beats in range(4):
            self.assertEqual(state_after(setup_of(seats=(4,)), (), [NOBODY] * beats)[0], 0)

    def test_two_chairs(self):
        setup = setup_of(seats=(4, 1))
        chairs = chairs_of(setup, (), [NOBODY] * 5)
        self.assertEqual([chair[1] for chair in chairs], [4, 1, 4, 1, 4])
        for beats in range(5):
            self.assertEqual(state_after(setup, (), [NOBODY] * beats)[0], beats % 2)

    def test_a_group_waits_for_the_larger_chair(self):
        self.beats(
            setup_of(seats=(1, 2), sizes=(2,)),
            (always("group"),),
            (((2,), 0), ((), 1, 1, NONE_AWAY), (1, (2,), 0, 0)),
            (NOBODY, ((("group", 2),), 0, 0, NONE_AWAY), (0, (), 0, 0)),
        )


class TestRooms(Beats):
    def test_groups_come_behind_the_line_in_their_order(self):
        self.assertEqual(state_after(setup_of(), (), [((5, 1), 0), ((2,), 0)])[1], (5, 1, 2))

    def test_groups_are_turned_away_one_by_one(self):
        self.beats(
            setup_of(rooms=(2, 1)),
            (),
            (((5,), 0), ((), 3, 3, NONE_AWAY), (0, (5,), 0, 0)),
            (((1, 2), 0), ((), 3, 3, (1, 0)), (0, (5, 1), 0, 0)),
            (((2,), 0), ((), 3, 3, (1, 0)), (0, (5, 1), 0, 0)),
            (((2, 1), 0), ((), 3, 3, (2, 0)), (0, (5, 1), 0, 0)),
        )

    def test_singles_are_turned_away(self):
        self.beats(
            setup_of(rooms=(1, 3)),
            (),
            (((), 2), ((), 3, 3, NONE_AWAY), (0, (), 2, 0)),
            (((), 2), ((), 3, 3, (0, 1)), (0, (), 3, 0)),
            (((), 1), ((), 3, 3, (0, 1)), (0, (), 3, 0)),
            (((1, 1), 2), ((), 3, 3, (1, 2)), (0, (1,), 3, 0)),
        )

    def test_no_room_for_singles(self):
        self.beats(
            setup_of(rooms=(1, 0)),
            (always("single"),),
            (((), 2), ((), 3, 0, (0, 2)), (0, (), 0, 0)),
        )

    def test_comers_find_the_room_before_the_chair_is_filled(self):
        self.beats(
            setup_of(rooms=(1, 1)),
            (always("group"), always("single")),
            (((1, 1), 2), ((("group", 1), ("single", 1)), 1, 0, (1, 1)), (0, (), 0, 0)),
            (((1,), 1), ((("group", 1), ("single", 1)), 1, 0, NONE_AWAY), (0, (), 0, 0)),
        )

    def test_what_remains_of_a_group_takes_the_room_of_one(self):
        self.beats(
            setup_of(seats=(2,), rooms=(1, 1)),
            (always("part"),),
            (((5,), 0), ((("part", 2),), 0, 0, NONE_AWAY), (0, (3,), 0, 0)),
            (((1,), 0), ((("part", 2),), 0, 0, (1, 0)), (0, (1,), 0, 0)),
        )

    def test_groups_and_singles_have_room_of_their_own(self):
        self.beats(
            setup_of(rooms=(1, 2)),
            (),
            (((1,), 0), ((), 3, 3, NONE_AWAY), (0, (1,), 0, 0)),
            (((), 2), ((), 3, 3, NONE_AWAY), (0, (1,), 2, 0)),
        )


class TestLost(Beats):
    def test_lost_is_empty_if_a_group_waits(self):
        self.assertEqual(
            chairs_of(setup_of(), (always("group"),), [((2, 2), 0)]),
            [((("group", 2),), 1, 1, NONE_AWAY)],
        )

    def test_lost_is_empty_if_a_single_waits(self):
        self.assertEqual(
            chairs_of(setup_of(), (always("group"),), [((2,), 1)]),
            [((("group", 2),), 1, 1, NONE_AWAY)],
        )

    def test_nothing_is_lost_if_nobody_waits(self):
        rule = (always("group"), always("single"))
        self.assertEqual(chairs_of(setup_of(), rule, [NOBODY]), [NOTHING])
        self.assertEqual(
            chairs_of(setup_of(), rule, [((1,), 1)]),
            [((("group", 1), ("single", 1)), 1, 0, NONE_AWAY)],
        )

    def test_nothing_is_lost_for_those_who_are_turned_away(self):
        rule = (always("group"), always("single"))
        self.assertEqual(
            chairs_of(setup_of(rooms=(1, 0)), rule, [((1, 1), 2)]),
            [((("group", 1),), 2, 0, (1, 2))],
        )

    def test_nothing_is_lost_in_a_full_chair(self):
        self.assertEqual(
            chairs_of(setup_of(seats=(2,)), (always("group"),), [((2, 2), 2)]),
            [((("group", 2),), 0, 0, NONE_AWAY)],
        )


class TestExample(Beats):
    def test_the_example(self):
        self.beats(
            EXAMPLE_SETUP,
            EXAMPLE_RULE,
            (((1, 2), 0), ((("group", 1),), 1, 1, NONE_AWAY), (0, (2,), 0, 0)),
            (((1,), 0), ((("group", 2),), 0, 0, NONE_AWAY), (0, (1,), 0, 0)),
            (((2,), 0), ((("group", 1),), 1, 1, NONE_AWAY), (0, (2,), 0, 0)),
            (((1,), 0), ((("group", 2),), 0, 0, NONE_AWAY), (0, (1,), 0, 0)),
        )

    def test_no_two_chairs_in_a_row_lose(self):
        row = [((1, 2), 1), ((2, 1), 1), ((1, 2), 0), ((2,), 1), ((1,), 0), ((1, 2), 1)] * 8
        lost = [chair[2] for chair in chairs_of(EXAMPLE_SETUP, EXAMPLE_RULE, row)]
        self.assertTrue(all(first == 0 or second == 0 for first, second in zip(lost, lost[1:])))


class TestAgainstThePlainTelling(unittest.TestCase):
    def test_rules_by_dice(self):
        for setup, rule, row in some_cases(11, 600, 40):
            chairs, state = plain_chairs(setup, rule, row)
            self.assertEqual(chairs_of(setup, rule, row), chairs, (setup, rule, row))
            self.assertEqual(state_after(setup, rule, row), state, (setup, rule, row))

    def test_three_hundred_beats(self):
        for setup, rule, row in some_cases(12, 20, 300):
            chairs, state = plain_chairs(setup, rule, row)
            self.assertEqual(len(chairs), 300)
            self.assertEqual(chairs_of(setup, rule, row), chairs)
            self.assertEqual(state_after(setup, rule, row), state)

    def test_the_kinds_of_the_values(self):
        for setup, rule, row in some_cases(13, 60, 10):
            chairs = chairs_of(setup, rule, row)
            self.assertIs(type(chairs), list)
            for chair in chairs:
                self.assertIs(type(chair), tuple)
                deeds, empty, lost, away = chair
                self.assertEqual([type(part) for part in chair], [tuple, int, int, tuple])
                self.assertEqual([type(number) for number in (empty, lost, *away)], [int] * 4)
                for deed in deeds:
                    self.assertEqual([type(deed), *map(type, deed)], [tuple, str, int])
            state = state_after(setup, rule, row)
            self.assertIs(type(state), tuple)
            self.assertEqual([type(part) for part in state], [int, tuple, int, int])
            self.assertTrue(all(type(size) is int for size in state[1]))


if __name__ == "__main__":
    unittest.main()
