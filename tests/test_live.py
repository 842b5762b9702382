import random
import unittest

from fillchairs.beats import chairs_of, lost_by, state_after
from fillchairs.errors import BadComers, BadNumber, BadRow, BadRule, BadSetup, BadWho, NothingToUndo
from fillchairs.live import Lift
from fillchairs.waits import wait_of
from tests.plain import (
    EXAMPLE_RULE,
    EXAMPLE_SETUP,
    Plain,
    always,
    busy_rule,
    plain_chairs,
    plain_comers,
    some_row,
    some_setup,
)
from tests.plain_long import FIRST, plain_beat, plain_waits
from tests.wrong import NO_INTEGERS, NO_LISTS, NO_RULES, NO_SETUPS, NO_TUPLES, NO_WHOS

SETUP = ((3, 2), (1, 2, 4), (2, 2), (2, 1))
GROUPS = (always("group"), always("single"))
SINGLES = (always("single"), always("part"), always("group"))
ROW = [((4, 2), 1), ((1,), 0), ((), 1), ((2, 2), 1), ((4,), 0)]


def view(lift):
    """All that a lift tells of itself."""
    return (
        lift.row(),
        lift.chairs(),
        lift.state(),
        lift.rule(),
        lift.lost(),
        lift.waiting,
        len(lift),
        list(lift),
    )


class Told:
    """What a lift should hold: all states and rules, deed by deed."""

    def __init__(self, setup, rule=()):
        self.setup = setup
        # Tuples (deed, comers and chair or None, state after it, rule after it).
        self.deeds = [("first", None, FIRST, rule)]

    def beat(self, comers):
        _, _, state, rule = self.deeds[-1]
        chair, after = plain_beat(self.setup, rule, state, comers)
        self.deeds.append(("beat", (comers, chair), after, rule))
        return chair

    def change_rule(self, rule):
        self.deeds.append(("rule", None, self.deeds[-1][2], rule))

    def undo(self):
        self.deeds.pop()

    def view(self):
        beats = [beat for deed, beat, _, _ in self.deeds if deed == "beat"]
        chairs = [chair for _, chair in beats]
        _, line, singles, _ = self.deeds[-1][2]
        return (
            [comers for comers, _ in beats],
            chairs,
            self.deeds[-1][2],
            self.deeds[-1][3],
            sum(chair[2] for chair in chairs),
            (len(line), singles),
            len(chairs),
            chairs,
        )


class TestBeats(unittest.TestCase):
    def test_a_new_lift(self):
        lift = Lift(SETUP)
        self.assertEqual(view(lift), ([], [], FIRST, (), 0, (0, 0), 0, []))
        self.assertEqual(Lift(SETUP, GROUPS).rule(), GROUPS)
        self.assertEqual(Lift(rule=GROUPS, setup=SETUP).rule(), GROUPS)

    def test_beat_by_beat(self):
        for rule in ((), GROUPS, SINGLES):
            lift = Lift(SETUP, rule)
            plain = Plain(SETUP, rule)
            for groups, singles in ROW:
                deeds, empty, lost, away = plain.beat((groups, singles))
                self.assertEqual(lift.beat(groups, singles), (deeds, empty, lost, away))
                self.assertEqual(lift.state(), plain.state())
            self.assertEqual(lift.row(), ROW)
            self.assertEqual(lift.chairs(), chairs_of(SETUP, rule, ROW))
            self.assertEqual(lift.lost(), lost_by(SETUP, rule, ROW))
            self.assertEqual(lift.state(), state_after(SETUP, rule, ROW))

    def test_rows_played_whole_or_in_parts(self):
        whole = Lift(SETUP, GROUPS)
        self.assertEqual(whole.play(ROW), chairs_of(SETUP, GROUPS, ROW))
        for cut in range(len(ROW) + 1):
            lift = Lift(SETUP, GROUPS)
            chairs = lift.play(ROW[:cut]) + lift.play(ROW[cut:])
            self.assertEqual(chairs, chairs_of(SETUP, GROUPS, ROW))
            self.assertEqual(view(lift), view(whole))
            self.assertEqual(lift, whole)
        self.assertEqual(whole.play([]), [])
        self.assertEqual(len(whole), len(ROW))

    def test_none_come_if_one_entry_is_wrong(self):
        lift = Lift(SETUP, GROUPS)
        lift.play(ROW)
        lift.change_rule(SINGLES)
        before, twin = view(lift), lift.copy()
        calm = ((), 0)
        for row, place in (
            (ROW + [None], 5),
            ([((3,), 0)] + ROW, 0),
            (ROW[:2] + [((1,), 2)] + ROW, 2),
            (ROW[:1] + [((1,), True)], 1),
            ([calm] * 301, 300),
            ([calm] * 300 + [None], 300),
            ([calm] * 299 + [None, None], 299),
            (tuple(ROW), -1),
            *[(wrong, -1) for wrong in NO_LISTS],
        ):
            with self.assertRaises(BadRow) as caught:
                lift.play(row)
            self.assertEqual(caught.exception.place, place)
            self.assertEqual(view(lift), before)
            self.assertEqual(lift, twin)

    def test_bad_comers(self):
        lift = Lift(SETUP, GROUPS)
        lift.beat((1,), 1)
        before = view(lift)
        wrong = [(groups, 0) for groups in NO_TUPLES] + [((), singles) for singles in NO_INTEGERS]
        wrong += [((3,), 0), ((1, 1, 1), 0), ((True,), 0), (([1],), 0), ((1,), 2), ((1,), -1), ((1,), 10**59), (1, ())]
        for groups, singles in wrong:
            with self.assertRaises(BadComers):
                lift.beat(groups, singles)
            with self.assertRaises(BadComers):
                lift.beat(singles=singles, groups=groups)
            self.assertEqual(view(lift), before)
        self.assertEqual(lift.beat(groups=(2,), singles=0), chairs_of(SETUP, GROUPS, [((1,), 1), ((2,), 0)])[1])

    def test_bad_setups_and_rules(self):
        for setup in NO_SETUPS:
            for rule in (GROUPS, None):
                with self.assertRaises(BadSetup):
                    Lift(setup, rule)
            with self.assertRaises(BadSetup):
                Lift(setup)
        for rule in NO_RULES:
            with self.assertRaises(BadRule):
                Lift(SETUP, rule)

    def test_rows_of_more_than_three_hundred_beats(self):
        lift = Lift(SETUP, SINGLES)
        rows = [some_row(random.Random(seed), SETUP, 300) for seed in range(3)]
        chairs = []
        for row in rows:
            chairs += lift.play(row)
        together = rows[0] + rows[1] + rows[2]
        lift.beat((), 1)
        plain, state = plain_chairs(SETUP, SINGLES, together + [((), 1)])
        self.assertEqual(lift.chairs(), plain)
        self.assertEqual(chairs, plain[:900])
        self.assertEqual(lift.state(), state)
        self.assertEqual(lift.lost(), sum(chair[2] for chair in plain))
        self.assertEqual(len(lift), 901)
        self.assertEqual(lift[900], plain[900])
        waits = plain_waits(SETUP, SINGLES, lift.row(), "group")
        self.assertEqual([lift.waits("group", number) for number in range(len(waits))], waits)
        self.assertEqual(lift.copy(), lift)
        self.assertEqual(lift.try_rows([[((), 0)]]), [0])
        for beats in range(901, 0, -1):
            self.assertEqual(len(lift), beats)
            lift.undo()
        self.assertEqual(view(lift), view(Lift(SETUP, SINGLES)))


class TestRules(unittest.TestCase):
    def test_a_rule_for_the_beats_that_come(self):
        lift = Lift(SETUP, GROUPS)
        first = lift.play(ROW[:3])
        self.assertIsNone(lift.change_rule(SINGLES))
        self.assertEqual(lift.rule(), SINGLES)
        self.assertEqual(lift.chairs(), first)
        plain = Plain(SETUP, GROUPS)
        for comers in ROW[:3]:
            plain.beat(comers)
        plain.rule = SINGLES
        self.assertEqual(lift.play(ROW), [plain.beat(comers) for comers in ROW])
        self.assertEqual(lift.state(), plain.state())

    def test_the_mood_stays(self):
        lift = Lift(SETUP, (always("single", 0, 2),))
        lift.beat((4,), 1)
        self.assertEqual(lift.state()[3], 2)
        lift.change_rule((always("single", 0, 1), always("single", 2, 1)))
        self.assertEqual(lift.state()[3], 2)
        lift.beat((), 1)
        self.assertEqual(lift.state()[3], 1)

    def test_bad_rules(self):
        lift = Lift(SETUP, GROUPS)
        lift.play(ROW)
        before, twin = view(lift), lift.copy()
        for wrong in NO_RULES:
            with self.assertRaises(BadRule):
                lift.change_rule(wrong)
            self.assertEqual(view(lift), before)
            self.assertEqual(lift, twin)
        lift.change_rule(rule=())
        self.assertEqual(lift.rule(), ())


class TestUndo(unittest.TestCase):
    def test_nothing_to_undo(self):
        lift = Lift(SETUP, GROUPS)
        for _ in range(2):
            with self.assertRaises(NothingToUndo):
                lift.undo()
        lift.beat((), 0)
        lift.undo()
        with self.assertRaises(NothingToUndo):
            lift.undo()
        lift.play([])
        with self.assertRaises(NothingToUndo):
            lift.undo()
        with self.assertRaises(BadRule):
            lift.change_rule(None)
        with self.assertRaises(NothingToUndo):
            lift.undo()

    def test_deeds_by_dice(self):
        dice = random.Random(411)
        for _ in range(40):
            setup = some_setup(dice)
            rule = busy_rule(dice)
            lift, told = Lift(setup, rule), Told(setup, rule)
            comers = plain_comers(setup)
            for _ in range(60):
                choice = dice.random()
                if choice < 0.4:
                    come = dice.choice(comers)
                    self.assertEqual(lift.beat(*come), told.beat(come))
                elif choice < 0.55:
                    row = some_row(dice, setup, dice.randint(0, 4))
                    self.assertEqual(lift.play(row), [told.beat(come) for come in row])
                elif choice < 0.7:
                    more = busy_rule(dice)
                    self.assertIsNone(lift.change_rule(more))
                    told.change_rule(more)
                elif len(told.deeds) > 1:
                    self.assertIsNone(lift.undo())
                    told.undo()
                else:
                    with self.assertRaises(NothingToUndo):
                        lift.undo()
                self.assertEqual(view(lift), told.view())

    def test_played_beats_are_undone_alone(self):
        lift = Lift(SETUP, GROUPS)
        lift.play(ROW)
        for beats in range(len(ROW) - 1, -1, -1):
            lift.undo()
            other = Lift(SETUP, GROUPS)
            other.play(ROW[:beats])
            self.assertEqual(view(lift), view(other))
            self.assertEqual(lift, other)

    def test_changes_are_undone(self):
        lift = Lift(SETUP, GROUPS)
        lift.play(ROW[:2])
        lift.change_rule(())
        lift.change_rule(SINGLES)
        lift.beat((1,), 0)
        lift.undo()
        self.assertEqual(lift.rule(), SINGLES)
        lift.undo()
        self.assertEqual(lift.rule(), ())
        self.assertEqual(lift.row(), ROW[:2])
        lift.undo()
        self.assertEqual(lift.rule(), GROUPS)
        lift.undo()
        self.assertEqual(lift.row(), ROW[:1])


class TestLooking(unittest.TestCase):
    def setUp(self):
        self.lift = Lift(SETUP, GROUPS)
        self.lift.play(ROW)
        self.lift.change_rule(SINGLES)
        self.lift.play(ROW)

    def test_chairs_by_their_places(self):
        chairs = self.lift.chairs()
        self.assertEqual(len(self.lift), 10)
        self.assertEqual([self.lift[place] for place in range(10)], chairs)
        self.assertEqual(list(self.lift), chairs)
        self.assertEqual([chair for chair in self.lift], chairs)
        self.assertEqual(tuple(self.lift), tuple(chairs))
        for place in (*NO_INTEGERS, -1, -10, 10, 11, 10**59, -(10**59), slice(0, 2), "beat", 1.5):
            with self.assertRaises(BadNumber):
                self.lift[place]
        for place in (0, -1, True, False, None):
            with self.assertRaises(BadNumber):
                Lift(SETUP)[place]

    def test_lists_are_new(self):
        before = view(self.lift)
        for call in (self.lift.row, self.lift.chairs):
            answer = call()
            answer.reverse()
            answer.append(None)
            self.assertEqual(view(self.lift), before)
        played = self.lift.play(ROW)
        played.clear()
        self.assertEqual(len(self.lift), 15)

    def test_what_is_passed_is_not_kept(self):
        row = list(ROW)
        lift = Lift(SETUP, GROUPS)
        lift.play(row)
        self.assertEqual(row, ROW)
        row.clear()
        self.assertEqual(lift.row(), ROW)
        rows = [list(ROW), []]
        self.assertEqual(lift.try_rows(rows), lift.try_rows([list(ROW), []]))
        self.assertEqual(rows, [ROW, []])

    def test_kinds(self):
        kinds = {"row": list, "chairs": list, "state": tuple, "rule": tuple, "lost": int}
        for name, kind in kinds.items():
            self.assertIs(type(getattr(self.lift, name)()), kind)
        self.assertIs(type(self.lift.waiting), tuple)
        self.assertEqual([type(part) for part in self.lift.waiting], [int, int])
        self.assertIs(type(self.lift.beat((), 0)), tuple)
        self.assertIs(type(self.lift.copy()), Lift)
        self.assertIs(type(self.lift == self.lift.copy()), bool)

    def test_waiting_cannot_be_set(self):
        with self.assertRaises(AttributeError):
            self.lift.waiting = (0, 0)


class TestWaits(unittest.TestCase):
    def test_as_wait_of(self):
        dice = random.Random(412)
        for _ in range(30):
            setup, rule = some_setup(dice), busy_rule(dice)
            row = some_row(dice, setup, 30)
            lift = Lift(setup, rule)
            lift.play(row)
            for who in ("group", "single"):
                waits = plain_waits(setup, rule, row, who)
                for number, wait in enumerate(waits):
                    self.assertEqual(lift.waits(who, number), wait)
                    self.assertEqual(lift.waits(number=number, who=who), wait_of(setup, rule, row, who, number))
                for number in (len(waits), -1, 10**59):
                    with self.assertRaises(BadNumber):
                        lift.waits(who, number)

    def test_by_rules_that_change(self):
        lift = Lift(((2,), (2,), (2, 2), (1, 1)))
        lift.beat((2,), 1)
        self.assertIsNone(lift.waits("group", 0))
        lift.change_rule(GROUPS)
        lift.beat((2,), 0)
        self.assertEqual(lift.waits("group", 0), 1)
        self.assertIsNone(lift.waits("group", 1))
        self.assertIsNone(lift.waits("single", 0))
        lift.change_rule((always("single"),))
        lift.beat((), 0)
        self.assertEqual(lift.waits("single", 0), 2)
        lift.undo()
        self.assertIsNone(lift.waits("single", 0))

    def test_errors(self):
        lift = Lift(SETUP, GROUPS)
        lift.play(ROW)
        for who in NO_WHOS:
            for number in (0, None, -1):
                with self.assertRaises(BadWho):
                    lift.waits(who, number)
        for number in (*NO_INTEGERS, -1, 99):
            with self.assertRaises(BadNumber):
                lift.waits("group", number)
        with self.assertRaises(BadNumber):
            Lift(SETUP).waits("single", 0)


class TestTryRows(unittest.TestCase):
    def plain(self, setup, rule, state, rows):
        losses = []
        for row in rows:
            lost = 0
            at = state
            for comers in row:
                chair, at = plain_beat(setup, rule, at, comers)
                lost += chair[2]
            losses.append(lost)
        return [place for place, lost in enumerate(losses) if lost == min(losses)]

    def test_against_plain_beats(self):
        dice = random.Random(413)
        ties = 0
        for _ in range(80):
            setup, rule = some_setup(dice), busy_rule(dice)
            lift = Lift(setup, rule)
            lift.play(some_row(dice, setup, dice.randint(0, 12)))
            rows = [some_row(dice, setup, dice.randint(0, 20)) for _ in range(dice.randint(0, 10))]
            before, twin = view(lift), lift.copy()
            for other in (None, (), busy_rule(dice)):
                ruling = rule if other is None else other
                answer = lift.try_rows(rows, rule=other)
                self.assertEqual(answer, self.plain(setup, ruling, lift.state(), rows))
                ties += len(answer) > 1
            self.assertEqual(lift.try_rows(rows), lift.try_rows(rows, rule=None))
            self.assertEqual(lift.try_rows(rows), lift.try_rows(rows=rows, rule=rule))
            self.assertEqual(view(lift), before)
            self.assertEqual(lift, twin)
        self.assertGreater(ties, 10)

    def test_the_rule_that_was_changed(self):
        lift = Lift(EXAMPLE_SETUP, EXAMPLE_RULE)
        lift.beat((1, 2), 1)
        lift.change_rule(())
        rows = [[((), 0)], [((), 0), ((), 0)]]
        self.assertEqual(lift.try_rows(rows), [0])
        self.assertEqual(lift.try_rows(rows, rule=EXAMPLE_RULE), [0, 1])

    def test_no_rows_and_empty_rows(self):
        lift = Lift(SETUP)
        self.assertEqual(lift.try_rows([]), [])
        self.assertEqual(lift.try_rows([[]]), [0])
        self.assertEqual(lift.try_rows([[], [((1,), 0)], []]), [0, 2])
        self.assertEqual(lift.try_rows([[]] * 10), list(range(10)))
        with self.assertRaises(TypeError):
            lift.try_rows([[]], ())

    def test_the_place_of_the_first_bad_one(self):
        lift = Lift(SETUP, GROUPS)
        lift.play(ROW)
        before = view(lift)
        calm = [((), 0)]
        for rows, place in (
            ([[]] * 11, 10),
            ([[]] * 10 + [None], 10),
            ([[]] * 12, 10),
            ([[]] * 9 + [None, None], 9),
            ([calm * 20], None),
            ([calm * 21], 0),
            ([calm * 20, calm * 21], 1),
            ([calm, None], 1),
            ([calm, tuple(calm)], 1),
            ([calm, calm + [None]], 1),
            ([calm, [((3,), 0)]], 1),
            ([[((), True)], calm], 0),
            (calm, 0),
            ((calm,), -1),
            ({0: calm}, -1),
            *[(wrong, -1) for wrong in NO_LISTS],
        ):
            if place is None:
                self.assertEqual(lift.try_rows(rows), [0])
            else:
                for rule in (None, GROUPS, 0):
                    with self.assertRaises(BadRow) as caught:
                        lift.try_rows(rows, rule=rule)
                    self.assertEqual(caught.exception.place, place, rows)
            self.assertEqual(view(lift), before)

    def test_bad_rules(self):
        lift = Lift(SETUP, GROUPS)
        for wrong in NO_RULES:
            if wrong is not None:
                with self.assertRaises(BadRule):
                    lift.try_rows([[]], rule=wrong)
                with self.assertRaises(BadRule):
                    lift.try_rows([], rule=wrong)


class TestEqual(unittest.TestCase):
    def test_setups_first_rules_and_deeds(self):
        lift = Lift(SETUP, GROUPS)
        self.assertEqual(lift, Lift(SETUP, GROUPS))
        self.assertNotEqual(lift, Lift(SETUP, SINGLES))
        self.assertNotEqual(lift, Lift(SETUP))
        self.assertNotEqual(lift, Lift(((3, 2), (1, 2, 4), (2, 2), (2, 2)), GROUPS))
        lift.play(ROW)
        self.assertNotEqual(lift, Lift(SETUP, GROUPS))
        other = Lift(SETUP, GROUPS)
        for groups, singles in ROW:
            other.beat(groups, singles)
        self.assertEqual(lift, other)
        self.assertFalse(lift != other)
        other.undo()
        self.assertNotEqual(lift, other)
        other.beat(*ROW[-1])
        self.assertEqual(lift, other)

    def test_the_order_of_what_was_done(self):
        lift, other = Lift(SETUP, GROUPS), Lift(SETUP, GROUPS)
        lift.beat((), 0)
        lift.change_rule(SINGLES)
        other.change_rule(SINGLES)
        other.beat((), 0)
        self.assertEqual(lift.chairs(), other.chairs())
        self.assertEqual((lift.rule(), lift.state()), (other.rule(), other.state()))
        self.assertNotEqual(lift, other)
        lift.undo()
        lift.undo()
        lift.change_rule(SINGLES)
        lift.beat((), 0)
        self.assertEqual(lift, other)

    def test_a_change_to_the_same_rule_is_done_too(self):
        lift, other = Lift(SETUP, GROUPS), Lift(SETUP, GROUPS)
        lift.change_rule(GROUPS)
        self.assertNotEqual(lift, other)
        lift.undo()
        self.assertEqual(lift, other)
        # The rules are the same now, but not those at first.
        lift = Lift(SETUP, SINGLES)
        lift.change_rule(GROUPS)
        other.change_rule(GROUPS)
        self.assertEqual(lift.rule(), other.rule())
        self.assertNotEqual(lift, other)

    def test_what_was_undone_does_not_count(self):
        lift = Lift(SETUP, GROUPS)
        lift.play(ROW)
        for _ in ROW:
            lift.undo()
        self.assertEqual(lift, Lift(SETUP, GROUPS))

    def test_other_objects(self):
        lift = Lift(SETUP, GROUPS)
        for other in (None, 0, (), [], "lift", SETUP, (SETUP, GROUPS), object(), Lift, lift.row(), lift.chairs()):
            self.assertFalse(lift == other)
            self.assertFalse(other == lift)
            self.assertTrue(lift != other)

    def test_copies_go_their_own_ways(self):
        lift = Lift(SETUP, GROUPS)
        lift.play(ROW)
        lift.change_rule(SINGLES)
        twin = lift.copy()
        self.assertEqual(twin, lift)
        self.assertIsNot(twin, lift)
        before = view(lift)
        self.assertEqual(view(twin), before)
        twin.beat((1,), 0)
        self.assertNotEqual(twin, lift)
        self.assertEqual(view(lift), before)
        twin.undo()
        self.assertEqual(twin, lift)
        twin.undo()
        self.assertEqual(twin.rule(), GROUPS)
        self.assertEqual(view(lift), before)
        told = view(twin)
        for _ in range(6):
            lift.undo()
        self.assertEqual(view(twin), told)
        with self.assertRaises(NothingToUndo):
            lift.undo()
        twin.undo()
        self.assertEqual(twin.row(), ROW[:-1])


if __name__ == "__main__":
    unittest.main()
