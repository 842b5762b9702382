import random
import unittest

from fillchairs.ahead import best_deeds, deeds_lose, least_lost, regret
from fillchairs.beats import chairs_of, lost_by, parted_by
from fillchairs.errors import BadNumber, BadRow, BadRule, BadSetup
from tests.plain import EXAMPLE_RULE, EXAMPLE_SETUP, always, busy_rule, plain_chairs, some_rule
from tests.plain_ahead import ahead_cases, chairs_after, least_by_trying, plain_deeds_lose, plain_stages
from tests.wrong import NO_INTEGERS, NO_LISTS, NO_RULES, NO_SETUPS

SETUP = ((3, 2), (1, 2, 4), (2, 2), (2, 1))
ROW = [((4, 2), 1), ((1,), 0), ((2, 2), 1), ((), 1)]
NO_NUMBERS = (*NO_INTEGERS, -1, -2, -(10**59))


def some_deeds(dice, setup, row):
    """A list of deeds that can be done, by dice."""
    line, singles, deeds = (), 0, []
    for beat, comers in enumerate(row):
        done, _, _, line, singles = dice.choice(chairs_after(setup, beat, comers, line, singles))
        deeds.append(done)
    return deeds


class TestLeastLost(unittest.TestCase):
    def test_told_by_hand(self):
        setup = ((2,), (1, 2), (2, 2), (2, 1))
        # The group of 1 sits alone, for a group of 2 stands behind it.
        self.assertEqual(least_lost(setup, [((1, 2), 0)]), 1)
        self.assertEqual(least_lost(setup, [((1, 2), 1)]), 0)
        self.assertEqual(least_lost(setup, [((1, 2), 0)], parts=1), 0)
        self.assertEqual(least_lost(setup, []), 0)
        self.assertEqual(least_lost(setup, [((), 0)] * 16), 0)
        # Nobody waits after the last chair, so its empty seat is not lost.
        self.assertEqual(least_lost(setup, [((1,), 0)]), 0)

    def test_letting_the_chair_go_can_be_better(self):
        # A single may wait to fill up later chairs.
        setup = ((3,), (2,), (1, 1), (1, 1))
        row = [((), 1), ((2,), 0), ((2,), 0)]
        self.assertEqual(least_lost(setup, row), least_by_trying(setup, row, 0))
        self.assertEqual(best_deeds(setup, row), [(("single", 1),), (("group", 2),), (("group", 2),)])

    def test_more_parts_are_never_worse(self):
        setup = ((2,), (3, 5), (2, 0), (2, 0))
        row = [((3, 5), 0), ((3, 3), 0), ((5, 5), 0), ((3, 5), 0)]
        lost = [least_lost(setup, row, parts=parts) for parts in range(6)]
        self.assertEqual(lost, sorted(lost, reverse=True))
        self.assertEqual(lost[0], 8)
        self.assertEqual(lost[-1], 0)
        self.assertEqual(least_lost(setup, row, parts=10**59), 0)

    def test_parts_enough_lose_nothing(self):
        for setup, row, _ in ahead_cases(341, 100, 16):
            self.assertEqual(least_lost(setup, row, parts=16), 0)

    def test_against_all_deeds(self):
        for setup, row, parts in ahead_cases(342, 150, 3):
            least = least_by_trying(setup, row, parts)
            self.assertEqual(least_lost(setup, row, parts=parts), least, (setup, row, parts))

    def test_against_stages(self):
        for setup, row, parts in ahead_cases(343, 60, 16):
            numbers = plain_stages(setup, row, parts)
            self.assertEqual(least_lost(setup, row, parts=parts), numbers[0][(), 0, parts])

    def test_parts_of_none_if_none_are_told(self):
        for setup, row, _ in ahead_cases(344, 40, 5):
            self.assertEqual(least_lost(setup, row), least_lost(setup, row, parts=0))
            self.assertEqual(best_deeds(setup, row), best_deeds(setup, row, parts=0))
            self.assertNotIn("part", [name for done in best_deeds(setup, row) for name, _ in done])

    def test_rows_of_sixteen_and_seventeen_beats(self):
        for call in (least_lost, best_deeds):
            self.assertIsNotNone(call(SETUP, ROW * 4))
            for row in (ROW * 4 + [((), 0)], ROW * 5, ROW * 4 + [None], ROW * 100):
                with self.assertRaises(BadRow) as caught:
                    call(SETUP, row)
                self.assertEqual(caught.exception.place, 16)
            with self.assertRaises(BadRow) as caught:
                call(SETUP, ROW * 3 + [None] + ROW * 3)
            self.assertEqual(caught.exception.place, 12)

    def test_bad_numbers(self):
        for call in (least_lost, best_deeds):
            for parts in NO_NUMBERS:
                with self.assertRaises(BadNumber):
                    call(SETUP, ROW, parts=parts)

    def test_kinds(self):
        self.assertIs(type(least_lost(SETUP, ROW)), int)
        deeds = best_deeds(SETUP, ROW)
        self.assertIs(type(deeds), list)
        for done in deeds:
            self.assertIs(type(done), tuple)
            for deed in done:
                self.assertEqual([type(part) for part in deed], [str, int])

    def test_parts_by_name_only(self):
        for call in (least_lost, best_deeds):
            with self.assertRaises(TypeError):
                call(SETUP, ROW, 1)


class TestBestDeeds(unittest.TestCase):
    def test_they_lose_so_few(self):
        for setup, row, parts in ahead_cases(345, 200, 16):
            deeds = best_deeds(setup, row, parts=parts)
            least = least_lost(setup, row, parts=parts)
            self.assertEqual(plain_deeds_lose(setup, row, deeds, parts), least, (setup, row, parts))
            self.assertEqual(deeds_lose(setup, row, deeds, parts=parts), least)

    def test_no_beats(self):
        self.assertEqual(best_deeds(SETUP, []), [])
        self.assertEqual(best_deeds(SETUP, [((), 0)] * 3), [(), (), ()])

    def test_parts_only_as_often_as_told(self):
        setup = ((2,), (3, 5), (2, 0), (2, 0))
        row = [((3, 5), 0), ((3, 3), 0), ((5, 5), 0), ((3, 5), 0)]
        for parts in range(5):
            deeds = best_deeds(setup, row, parts=parts)
            self.assertLessEqual(len([1 for done in deeds for name, _ in done if name == "part"]), parts)


class TestDeedsLose(unittest.TestCase):
    def loses(self, setup, row, deeds, parts):
        lost = deeds_lose(setup, row, deeds, parts=parts)
        self.assertIn(type(lost), (int, type(None)))
        return lost

    def test_right_deeds(self):
        dice = random.Random(346)
        parted = 0
        for setup, row, parts in ahead_cases(347, 200, 16):
            deeds = some_deeds(dice, setup, row)
            lost = plain_deeds_lose(setup, row, deeds, parts)
            parted += lost is None
            self.assertEqual(self.loses(setup, row, deeds, parts), lost)
            if lost is not None:
                self.assertLessEqual(least_lost(setup, row, parts=parts), lost)
            self.assertIsNotNone(self.loses(setup, row, deeds, 16))
        self.assertGreater(parted, 5)

    def test_the_deeds_of_chairs(self):
        for setup, row, _ in ahead_cases(348, 60, 16):
            rule = busy_rule(random.Random(len(row)))
            deeds = [chair[0] for chair in chairs_of(setup, rule, row)]
            parts = parted_by(setup, rule, row)
            self.assertEqual(self.loses(setup, row, deeds, parts), lost_by(setup, rule, row))
            if parts:
                self.assertIsNone(self.loses(setup, row, deeds, parts - 1))

    def test_one_part_more_than_told(self):
        setup, row = ((2,), (3,), (2, 0), (1, 0)), [((3,), 0), ((3,), 0)]
        deeds = [(("part", 2),), (("group", 1),)]
        self.assertEqual(self.loses(setup, row, deeds, 1), 1)
        self.assertEqual(self.loses(setup, row, deeds, 10**59), 1)
        self.assertIsNone(self.loses(setup, row, deeds, 0))
        self.assertIsNone(deeds_lose(setup, row, deeds))
        deeds = [(("part", 2),), (("group", 1), ("part", 1))]
        self.assertEqual(self.loses(setup, row, deeds, 2), 0)
        self.assertIsNone(self.loses(setup, row, deeds, 1))

    def test_a_deed_that_cannot_be_done(self):
        dice = random.Random(349)
        others = [(name, number) for name in ("group", "single", "part", "go") for number in range(6)]
        answers = []
        for setup, row, _ in ahead_cases(350, 60, 5):
            deeds = some_deeds(dice, setup, row)
            for at, done in enumerate(deeds):
                for place in range(len(done) + 1):
                    for other in dice.sample(others, 6):
                        for cut in (0, 1):
                            changed = list(deeds)
                            changed[at] = done[:place] + (other,) + done[place + cut :]
                            answers.append(plain_deeds_lose(setup, row, changed, 16))
                            self.assertEqual(self.loses(setup, row, changed, 16), answers[-1], (setup, row, changed))
        self.assertGreater(answers.count(None), 100)
        self.assertGreater(len(answers) - answers.count(None), 20)

    def test_as_many_fewer_and_more_chairs(self):
        setup, row = ((2,), (1,), (2, 2), (1, 1)), [((1,), 1), ((1,), 0)]
        deeds = [(("group", 1), ("single", 1)), (("group", 1),)]
        self.assertEqual(self.loses(setup, row, deeds, 0), 0)
        self.assertIsNone(self.loses(setup, row, deeds[:1], 0))
        self.assertIsNone(self.loses(setup, row, deeds + [()], 0))
        self.assertIsNone(self.loses(setup, row, [], 0))
        self.assertEqual(self.loses(setup, [], [], 0), 0)
        self.assertIsNone(self.loses(setup, [], [()], 0))
        self.assertEqual(self.loses(setup, row, [(), ()], 0), 4)

    def test_lists_for_tuples_and_any_object(self):
        setup, row = ((2,), (1,), (2, 2), (1, 1)), [((1,), 1), ((1,), 0)]
        first, second = (("group", 1), ("single", 1)), (("group", 1),)
        wrong = [
            *[deeds for deeds in NO_LISTS],
            (first, second),
            [list(first), second],
            [first, [("group", 1)]],
            [first, (["group", 1],)],
            [first, ("group", 1)],
            [first, (("group",),)],
            [first, (("group", 1, 1),)],
            [first, (("group", True),)],
            [first, (("group", None),)],
            [first, (("group", "1"),)],
            [first, ((b"group", 1),)],
            [first, (("Group", 1),)],
            [first, (("go", 0),)],
            [first, (("go", 1),)],
            [first, (("group", 2),)],
            [first, (("part", 1),)],
            [first, (("single", 1),)],
            [first, ((None, 1),)],
            [first, (None,)],
            [first, None],
            [first, "ab"],
            [first, {}],
            [first[::1], 0],
            [(("single", True), ("group", 1)), second],
            [(("single", 2),), second],
            [[], []],
            {0: first, 1: second},
        ]
        self.assertEqual(self.loses(setup, row, [first, second], 0), 0)
        self.assertEqual(self.loses(setup, row, [first[::-1], second], 0), 0)
        for deeds in wrong:
            self.assertIsNone(self.loses(setup, row, deeds, 5), deeds)

    def test_errors(self):
        with self.assertRaises(BadRow) as caught:
            deeds_lose(SETUP, ROW * 5, None)
        self.assertEqual(caught.exception.place, 16)
        for parts in NO_NUMBERS:
            with self.assertRaises(BadNumber):
                deeds_lose(SETUP, ROW, None, parts=parts)
        with self.assertRaises(TypeError):
            deeds_lose(SETUP, ROW, [], 1)


class TestRegret(unittest.TestCase):
    def test_against_lost_by_and_least_lost(self):
        found = set()
        dice = random.Random(351)
        for setup, row, _ in ahead_cases(352, 150, 16):
            rule = busy_rule(dice) if dice.random() < 0.6 else some_rule(dice)
            chairs, _ = plain_chairs(setup, rule, row)
            parted = len([1 for chair in chairs for name, _ in chair[0] if name == "part"])
            lost = sum(chair[2] for chair in chairs)
            answer = regret(setup, rule, row)
            self.assertEqual(answer, lost - least_lost(setup, row, parts=parted))
            self.assertGreaterEqual(answer, 0)
            found.add(answer)
        self.assertIn(0, found)
        self.assertGreater(len(found), 3)

    def test_told_by_hand(self):
        row = [((1, 2), 1)]
        self.assertEqual(regret(EXAMPLE_SETUP, EXAMPLE_RULE, row), 0)
        self.assertEqual(regret(EXAMPLE_SETUP, (), row), 2)
        self.assertEqual(regret(EXAMPLE_SETUP, (), []), 0)
        # The group of 2 is parted, which loses nothing; somebody who parts none loses one seat.
        rule = (always("group"), always("part"))
        self.assertEqual(regret(EXAMPLE_SETUP, rule, [((1, 2), 0)]), 0)
        # With one part left the second chair could have been full, too.
        setup = ((2,), (3,), (2, 0), (1, 0))
        rule = ((0, (3, 3), (0, 9), (0, 9), "part", 0), always("group"))
        self.assertEqual(regret(setup, rule, [((3,), 0)] * 2), 0)

    def test_errors(self):
        for wrong in NO_SETUPS:
            with self.assertRaises(BadSetup):
                regret(wrong, (), ROW)
        for wrong in NO_RULES:
            with self.assertRaises(BadRule):
                regret(SETUP, wrong, ROW * 5)
        for times in (5, 75, 76, 100):
            with self.assertRaises(BadRow) as caught:
                regret(SETUP, (), ROW * times)
            self.assertEqual(caught.exception.place, 16)
        for row in NO_LISTS:
            with self.assertRaises(BadRow) as caught:
                regret(SETUP, (), row)
            self.assertEqual(caught.exception.place, -1)


if __name__ == "__main__":
    unittest.main()
