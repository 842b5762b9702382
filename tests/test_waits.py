import itertools
import random
import unittest

from fillchairs.beats import chairs_of
from fillchairs.errors import BadNumber, BadRow, BadWho
from fillchairs.means import ring_holds
from fillchairs.waits import greatest_wait, wait_of, wait_row
from tests.plain import (
    EXAMPLE_RULE,
    EXAMPLE_SETUP,
    Plain,
    always,
    plain_comers,
    some_cases,
    some_rule,
    some_setup,
)
from tests.plain_long import WHOS, further_waits, place_graph, places_after, plain_graph, plain_waits
from tests.wrong import NO_INTEGERS, NO_WHOS

# One chair of 2 seats; up to three groups and two singles wait.
SETUP = ((2,), (1, 2, 3), (3, 2), (2, 2))
GROUPS_FIRST = (always("group"), always("single"))
SINGLES_FIRST = (always("single"), always("group"))
PARTED = (always("part"), always("group"), always("single"))


def seats_more_rule(dice):
    """A rule by dice in which few wait for ever."""
    rows = [row for row in some_rule(dice) if row[4] != "go"][:5]
    for mood in range(3):
        rows.append(always("group", mood, dice.randint(0, 2)))
    return tuple(rows)


def shortest_wait(graph, who, numbers):
    """The length of a shortest row in which one waits longest and sits, by the places of all states."""
    greatest = max(numbers.values())
    beats = {(0, (), 0, 0): 0}
    for state, ways in graph.items():
        for _, after in ways.values():
            beats.setdefault(after, beats[state] + 1)
    # Behind the beat at which it comes go as many chairs as its number tells, then the one in which it sits.
    return min(
        beats[state] + 1 + greatest + 1
        for state in graph
        for place in places_after(graph, state, who)
        if numbers[place] == greatest
    )


class TestWaitOf(unittest.TestCase):
    def waits(self, setup, rule, row, who):
        """The waits of all of a kind that are let in, up to the first number that nobody has."""
        found = []
        while True:
            try:
                found.append(wait_of(setup, rule, row, who, len(found)))
            except BadNumber:
                return found

    def test_the_example(self):
        row = [((1, 2), 1), ((1,), 0), ((2,), 0)]
        self.assertEqual(self.waits(EXAMPLE_SETUP, EXAMPLE_RULE, row, "group"), [0, 1, 1, None])
        self.assertEqual(self.waits(EXAMPLE_SETUP, EXAMPLE_RULE, row, "single"), [0])

    def test_who_sits_at_once_and_who_waits(self):
        row = [((2, 1), 2), ((1, 2), 1), ((), 0), ((), 0), ((), 0)]
        self.assertEqual(self.waits(SETUP, GROUPS_FIRST, row, "group"), [0, 1, 0, 1])
        self.assertEqual(self.waits(SETUP, GROUPS_FIRST, row, "single"), [3, 3])
        self.assertEqual(self.waits(SETUP, SINGLES_FIRST, row, "single"), [0, 0, 0])
        self.assertEqual(self.waits(SETUP, SINGLES_FIRST, row, "group"), [2, 3, 2])

    def test_who_does_not_sit_in_the_row(self):
        row = [((2, 1), 2), ((1, 2), 1)]
        self.assertEqual(self.waits(SETUP, GROUPS_FIRST, row, "group"), [0, 1, 0, None])
        self.assertEqual(self.waits(SETUP, GROUPS_FIRST, row, "single"), [None, None])
        self.assertEqual(self.waits(SETUP, (), row, "group"), [None] * 3)
        self.assertEqual(self.waits(SETUP, (), row, "single"), [None] * 2)

    def test_a_wait_does_not_change_with_a_longer_row(self):
        row = [((2, 1), 2), ((1, 2), 1), ((), 0), ((), 0)]
        for beats in (3, 4):
            self.assertEqual(wait_of(SETUP, GROUPS_FIRST, row[:beats], "group", 3), 1)
        self.assertEqual(wait_of(SETUP, GROUPS_FIRST, row + [((1, 1), 2)] * 40, "single", 0), 3)

    def test_parted_groups(self):
        # The last of the first group of 3 sits in the second chair, that of the other one in the third.
        row = [((3, 3), 1), ((), 0), ((), 0), ((), 0)]
        self.assertEqual(self.waits(SETUP, PARTED, row, "group"), [1, 2])
        self.assertEqual(self.waits(SETUP, PARTED, row, "single"), [3])
        self.assertEqual(self.waits(SETUP, PARTED, row[:1], "group"), [None, None])
        setup = ((1,), (5,), (1, 0), (1, 0))
        self.assertEqual(self.waits(setup, PARTED, [((5,), 0)] * 5, "group"), [4])
        self.assertEqual(self.waits(setup, PARTED, [((5,), 0)] * 6, "group"), [4, None])

    def test_who_is_turned_away_has_no_number(self):
        setup = ((1,), (1, 2), (2, 1), (2, 2))
        row = [((2, 1), 2), ((1, 1), 2), ((1, 1), 1)]
        self.assertEqual([chair[3] for chair in chairs_of(setup, (), row)], [(0, 1), (2, 2), (2, 1)])
        self.assertEqual(self.waits(setup, (), row, "group"), [None, None])
        self.assertEqual(self.waits(setup, (), row, "single"), [None])
        # The second of the two groups that come next is turned away, the first one has the number 2.
        rule = (always("part"), always("group"))
        row = [((1, 1), 0), ((1, 2), 0), ((), 0), ((), 0)]
        self.assertEqual(self.waits(setup, rule, row, "group"), [0, 1, 1])

    def test_nobody_comes(self):
        self.assertEqual(self.waits(SETUP, GROUPS_FIRST, [], "group"), [])
        self.assertEqual(self.waits(SETUP, GROUPS_FIRST, [((), 0)] * 9, "single"), [])

    def test_rows_by_dice(self):
        for setup, rule, row in some_cases(91, 150, 30):
            for who in WHOS:
                self.assertEqual(self.waits(setup, rule, row, who), plain_waits(setup, rule, row, who))

    def test_a_row_of_three_hundred(self):
        row = [((1, 1), 2)] * 300
        for who in WHOS:
            self.assertEqual(self.waits(SETUP, GROUPS_FIRST, row, who), plain_waits(SETUP, GROUPS_FIRST, row, who))
        with self.assertRaises(BadRow) as caught:
            wait_of(SETUP, GROUPS_FIRST, row + [((), 0)], "group", 0)
        self.assertEqual(caught.exception.place, 300)

    def test_bad_who(self):
        for who in NO_WHOS:
            for number in (0, -1, None):
                with self.assertRaises(BadWho):
                    wait_of(SETUP, GROUPS_FIRST, [((1,), 1)], who, number)

    def test_bad_number(self):
        row = [((1, 2), 1), ((1,), 1)]
        for who, many in (("group", 3), ("single", 2)):
            for number in range(many):
                wait_of(SETUP, GROUPS_FIRST, row, who, number)
            for number in (many, many + 1, -1, -2, 10**59, -(10**59), *NO_INTEGERS):
                with self.assertRaises(BadNumber):
                    wait_of(SETUP, GROUPS_FIRST, row, who, number)
        for who in WHOS:
            for row in ([], [((), 0)]):
                for number in (0, 1, -1):
                    with self.assertRaises(BadNumber):
                        wait_of(SETUP, GROUPS_FIRST, row, who, number)


class TestGreatestWait(unittest.TestCase):
    """greatest_wait together with wait_row, which shows it."""

    def none_comes(self, setup, rule, who):
        self.assertEqual(greatest_wait(setup, rule, who), 0)
        self.assertIsNone(wait_row(setup, rule, who))

    def some(self, setup, rule, who, greatest, beats):
        self.assertEqual(greatest_wait(setup, rule, who), greatest)
        shown = wait_row(setup, rule, who)
        self.assertEqual((type(shown), len(shown)), (tuple, 2))
        row, number = shown
        self.assertEqual((type(row), type(number)), (list, int))
        self.assertEqual(plain_waits(setup, rule, row, who)[number], greatest)
        self.assertEqual(len(row), beats)
        coming = plain_comers(setup)
        for comers in row:
            self.assertIn(comers, coming)

    def ever(self, setup, rule, who):
        self.assertIsNone(greatest_wait(setup, rule, who))
        shown = wait_row(setup, rule, who)
        self.assertEqual((type(shown), len(shown)), (tuple, 3))
        ahead, rest, number = shown
        self.assertEqual((type(ahead), type(rest), type(number)), (list, list, int))
        self.assertNotEqual(rest, [])
        plain = Plain(setup, rule)
        for comers in ahead:
            plain.beat(comers)
        state = plain.state()
        lost = sum(plain.beat(comers)[2] for comers in rest)
        self.assertEqual(plain.state(), state)
        self.assertTrue(ring_holds(setup, rule, lost, len(rest), (ahead, rest)))
        self.assertGreaterEqual(number, 0)
        for times in (0, 1, 2, 3, 10):
            self.assertIsNone(plain_waits(setup, rule, ahead + rest * times, who)[number])

    def test_the_example(self):
        self.some(EXAMPLE_SETUP, EXAMPLE_RULE, "group", 1, 2)
        self.ever(EXAMPLE_SETUP, EXAMPLE_RULE, "single")

    def test_none_of_the_kind_can_be_let_in(self):
        for rule in ((), GROUPS_FIRST, SINGLES_FIRST):
            self.none_comes(((2,), (1, 2), (2, 2), (0, 2)), rule, "group")
            self.none_comes(((2,), (1, 2), (2, 2), (2, 0)), rule, "single")
            self.none_comes(((2,), (1, 2), (2, 0), (2, 2)), rule, "single")
            self.none_comes(((2,), (1, 2), (1, 0), (0, 0)), rule, "group")
            self.none_comes(((2,), (1, 2), (1, 0), (0, 0)), rule, "single")

    def test_all_sit_as_they_come(self):
        self.some(((2,), (1, 2), (1, 2), (1, 2)), GROUPS_FIRST, "group", 0, 1)
        self.some(((3,), (1,), (1, 2), (1, 2)), GROUPS_FIRST, "single", 0, 1)
        self.some(((5, 4), (3, 4), (3, 2), (1, 0)), (always("group"),), "group", 0, 1)
        self.some(((2,), (1, 2), (2, 2), (0, 2)), (always("single"),), "single", 0, 1)

    def test_some_number(self):
        self.some(((2,), (2,), (3, 0), (2, 0)), (always("group"),), "group", 2, 4)
        self.some(((2,), (2,), (2, 0), (1, 0)), (always("group"),), "group", 0, 1)
        self.some(((1,), (1,), (1, 4), (0, 2)), (always("single"),), "single", 3, 6)
        # Two groups of 5 come at once, and each of them sits in five chairs.
        self.some(((1,), (5,), (2, 0), (2, 0)), (always("part"), always("group")), "group", 9, 10)

    def test_a_state_that_must_come_before(self):
        # A group of 5 waits for the greater chair if the smaller one goes first, which is so only at a certain turn.
        setup = ((1, 5), (1, 5), (1, 0), (1, 0))
        rule = (always("group"),)
        self.some(setup, rule, "group", 1, 2)
        self.some(((5, 1), (1, 5), (1, 0), (1, 0)), rule, "group", 1, 3)

    def test_for_ever(self):
        for who in WHOS:
            self.ever(SETUP, (), who)
            self.ever(((2, 3), (1, 2), (2, 2), (1, 1)), (always("go", 0, 1), always("go", 1, 2)), who)
        self.ever(SETUP, GROUPS_FIRST, "group")
        self.ever(SETUP, SINGLES_FIRST, "group")
        self.ever(((2,), (1, 2), (3, 2), (2, 2)), SINGLES_FIRST, "group")
        self.ever(((2,), (1, 2), (3, 2), (2, 2)), GROUPS_FIRST, "single")
        self.ever(((1, 1), (1,), (1, 1), (1, 1)), GROUPS_FIRST, "single")

    def test_for_ever_if_others_come_again_and_again(self):
        # A group of 4 waits as long as two singles come at each beat.
        rule = (always("group"), always("single"), always("part"))
        self.ever(((2,), (2, 4), (1, 4), (1, 2)), rule, "group")
        # If only one can come, three have to wait before it, behind groups of 2, and come on.
        self.some(((2,), (2, 4), (1, 4), (1, 1)), rule, "group", 5, 9)
        rule = (always("go", 1, 0), always("single"), always("part", 0, 1))
        self.ever(((5, 1), (4,), (1, 1), (1, 1)), rule, "group")
        rule = ((0, (0, 9), (0, 9), (0, 3), "group", 0), (0, (0, 9), (3, 9), (0, 9), "single", 0))
        self.ever(((4, 2), (4,), (2, 4), (1, 1)), rule, "group")

    def test_for_ever_behind_others(self):
        # Those behind wait on, with changing groups turned away, while rounds go through several moods.
        moods = (always("go", 0, 1), always("go", 1, 2), always("go", 2, 0))
        for turns in ((2,), (2, 3)):
            for who in WHOS:
                self.ever((turns, (1, 2), (3, 4), (2, 2)), moods, who)

    def test_nobody_sits_in_one_mood_from_which_none_leads_on(self):
        rule = (always("group", 0, 1), always("single", 1, 2))
        for who in WHOS:
            self.ever(((5,), (1, 2), (2, 2), (1, 1)), rule, who)

    def test_against_rows_that_are_tried_out(self):
        dice = random.Random(92)
        tried = {"number": 0, "ever": 0}
        while min(tried.values()) < 15:
            setup = (
                tuple(dice.randint(1, 2) for _ in range(dice.randint(1, 2))),
                (dice.randint(1, 3),),
                (dice.randint(1, 2), dice.randint(0, 2)),
                (dice.randint(0, 1), dice.randint(0, 1)),
            )
            rule = seats_more_rule(dice)
            coming = plain_comers(setup)
            if len(coming) > 2:
                continue
            rows = [row for beats in range(8) for row in itertools.product(coming, repeat=beats)]
            for who in WHOS:
                greatest = greatest_wait(setup, rule, who)
                if greatest is None:
                    tried["ever"] += 1
                    self.ever(setup, rule, who)
                elif wait_row(setup, rule, who) is not None and greatest <= 4:
                    tried["number"] += 1
                    found = [
                        (wait, -len(row)) for row in rows for wait in plain_waits(setup, rule, row, who)
                        if wait is not None
                    ]
                    most, beats = max(found)
                    self.some(setup, rule, who, most, -beats)

    def test_against_places_of_states(self):
        dice = random.Random(93)
        tried = {"none": 0, "number": 0, "ever": 0}
        while min(tried.values()) < 25:
            setup, rule = some_setup(dice), seats_more_rule(dice)
            graph = plain_graph(setup, rule)
            for who in WHOS if len(graph) <= 90 else ():
                _, places = place_graph(graph, who)
                numbers = further_waits(places)
                if numbers is None:
                    tried["ever"] += 1
                    self.ever(setup, rule, who)
                elif wait_row(setup, rule, who) is None:
                    tried["none"] += 1
                    self.none_comes(setup, rule, who)
                elif not numbers:
                    self.some(setup, rule, who, 0, 1)
                else:
                    tried["number"] += 1
                    self.some(setup, rule, who, 1 + max(numbers.values()), shortest_wait(graph, who, numbers))

    def test_the_largest(self):
        setup = ((5, 4), (2, 4, 5), (3, 4), (2, 2))
        self.some(setup, (always("group"), always("single")), "group", 5, 7)
        self.ever(setup, (always("single"), always("group")), "group")
        self.ever(setup, (always("group"), always("single")), "single")

    def test_bad_who(self):
        for who in NO_WHOS:
            for function in (greatest_wait, wait_row):
                with self.assertRaises(BadWho):
                    function(SETUP, GROUPS_FIRST, who)


if __name__ == "__main__":
    unittest.main()
