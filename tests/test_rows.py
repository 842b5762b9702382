import copy
import unittest

from fillchairs.beats import all_states, chairs_of, lost_by, parted_by, state_after, turned_away
from fillchairs.errors import BadRow, BadRule, BadSetup
from tests.plain import EXAMPLE_RULE, EXAMPLE_SETUP, always, plain_comers, some_cases

OF_ROWS = (chairs_of, state_after, lost_by, parted_by)
OF_RULES = (all_states, turned_away)

SETUP = ((3, 2), (1, 2, 4), (2, 2), (2, 1))
RULE = (always("group"), always("part"), always("single"))

RIGHT = ((1, 4), 1)
WRONG = (
    None,
    True,
    0,
    "",
    "1+1",
    b"1",
    (),
    [],
    {},
    object(),
    [(1, 4), 1],
    ([1, 4], 1),
    ((1, 4),),
    ((1, 4), 1, 0),
    (1, (1, 4)),
    (1, 1),
    ("14", 1),
    (b"14", 1),
    ({1: 1, 4: 4}, 1),
    (range(1, 3), 1),
    (None, 0),
    ((3,), 0),
    ((0,), 0),
    ((5,), 0),
    ((-1,), 0),
    ((1, 3), 0),
    ((True,), 0),
    ((1, True), 0),
    (("1",), 0),
    (((1,),), 0),
    (([1],), 0),
    ((None,), 0),
    ((1, 1, 1), 0),
    ((1,), 2),
    ((1,), -1),
    ((1,), True),
    ((), False),
    ((1,), None),
    ((1,), "1"),
    ((1,), (1,)),
    ((1,), [1]),
    ((10**50,), 0),
    ((), 10**50),
)
NO_LISTS = (
    None,
    True,
    0,
    3,
    "",
    "14+1",
    b"",
    (),
    (RIGHT,),
    RIGHT,
    {},
    {0: RIGHT},
    set(),
    range(0),
    iter([]),
    object(),
    list,
)
NO_SETUPS = (None, 0, (), [], "setup", list(SETUP), SETUP[:3], ((3, 2), (2, 1), (2, 2), (2, 1)))
NO_RULES = (None, 0, [], [RULE[0]], RULE[0], "go", (None,), RULE * 3)


class TestBadRow(unittest.TestCase):
    def bad(self, row, place, setup=SETUP, rule=RULE):
        for function in OF_ROWS:
            with self.subTest(f"{function.__name__} {row!r}"):
                with self.assertRaises(BadRow) as caught:
                    function(setup, rule, row)
                self.assertEqual(caught.exception.place, place)
                self.assertIs(type(caught.exception.place), int)

    def test_each_wrong_entry(self):
        for entry in WRONG:
            self.bad([entry], 0)
            self.bad([RIGHT, RIGHT, entry], 2)

    def test_the_place(self):
        for entry in (None, ((3,), 0), ((1,), 2)):
            self.bad([entry] + [RIGHT] * 8, 0)
            self.bad([RIGHT] * 4 + [entry] + [RIGHT] * 4, 4)
            self.bad([RIGHT] * 8 + [entry], 8)

    def test_the_first_of_several(self):
        self.bad([RIGHT, None, RIGHT, None], 1)
        self.bad([None] * 5, 0)

    def test_comers_of_another_setup(self):
        row = [((1,), 1), ((2,), 0)]
        self.assertEqual(len(chairs_of(SETUP, RULE, row)), 2)
        self.bad(row, 1, ((3,), (1,), (2, 2), (1, 1)))
        self.bad(row, 0, ((3,), (1, 2), (2, 2), (0, 1)))
        self.bad(row, 0, ((3,), (1, 2), (2, 2), (1, 0)))
        self.bad([((), 0), ((2, 2), 0)], 1, ((3,), (2,), (2, 2), (1, 0)))

    def test_more_than_three_hundred(self):
        for function in OF_ROWS:
            function(SETUP, RULE, [RIGHT] * 300)
        self.bad([RIGHT] * 301, 300)
        self.bad([RIGHT] * 1000, 300)

    def test_wrong_entries_behind_the_first_three_hundred(self):
        self.bad([RIGHT] * 300 + [None], 300)
        self.bad([RIGHT] * 310 + [None], 300)

    def test_a_wrong_entry_ahead_of_that(self):
        self.bad([None] + [RIGHT] * 300, 0)
        self.bad([RIGHT] * 150 + [None] + [RIGHT] * 200, 150)
        self.bad([RIGHT] * 299 + [None], 299)
        self.bad([RIGHT] * 299 + [None, RIGHT, RIGHT], 299)

    def test_no_list(self):
        for row in NO_LISTS:
            self.bad(row, -1)

    def test_a_right_row_of_each_length(self):
        for beats in (0, 1, 2, 299, 300):
            self.assertEqual(len(chairs_of(SETUP, RULE, [RIGHT] * beats)), beats)

    def test_all_right_entries(self):
        row = plain_comers(SETUP)
        self.assertEqual(len(chairs_of(SETUP, RULE, row)), len(row))


class TestOrderOfErrors(unittest.TestCase):
    def test_bad_setup_first(self):
        for setup in NO_SETUPS:
            for function in OF_ROWS:
                for rule in (RULE, *NO_RULES):
                    for row in ([], [RIGHT], None, [None], [RIGHT] * 301):
                        with self.assertRaises(BadSetup):
                            function(setup, rule, row)
            for function in OF_RULES:
                for rule in (RULE, *NO_RULES):
                    with self.assertRaises(BadSetup):
                        function(setup, rule)

    def test_then_bad_rule(self):
        for rule in NO_RULES:
            for function in OF_ROWS:
                for row in ([], [RIGHT], None, [None], [RIGHT] * 301):
                    with self.assertRaises(BadRule):
                        function(SETUP, rule, row)
            for function in OF_RULES:
                with self.assertRaises(BadRule):
                    function(SETUP, rule)

    def test_no_bool_in_setup_or_rule(self):
        setup = ((3, 2), (True, 2, 4), (2, 2), (2, 1))
        rule = ((False, (0, 9), (0, 9), (0, 9), "go", 0),)
        for function in OF_ROWS:
            with self.assertRaises(BadSetup):
                function(setup, RULE, [])
            with self.assertRaises(BadRule):
                function(SETUP, rule, [])


class TestAgainstChairs(unittest.TestCase):
    def follow(self, setup, rule, row):
        """The state, the lost seats and the parts, as the chairs of the row tell them."""
        line, singles, lost, parted = [], 0, 0, 0
        for beat, (deeds, empty, lost_here, away) in enumerate(chairs_of(setup, rule, row)):
            groups, more = row[beat]
            line += groups[: len(groups) - away[0]]
            singles += more - away[1]
            sat = 0
            for name, number in deeds:
                sat += number
                if name == "single":
                    singles -= number
                elif name == "group":
                    self.assertEqual(line.pop(0), number)
                else:
                    parted += 1
                    line[0] -= number
                    self.assertGreater(line[0], 0)
            self.assertEqual(sat + empty, setup[0][beat % len(setup[0])])
            self.assertEqual(lost_here, empty if line or singles else 0)
            lost += lost_here
        return (len(row) % len(setup[0]), tuple(line), singles), lost, parted

    def test_rules_by_dice(self):
        for setup, rule, row in some_cases(21, 150, 25):
            for beats in (0, 1, 2, 7, 25):
                state, lost, parted = self.follow(setup, rule, row[:beats])
                self.assertEqual(state_after(setup, rule, row[:beats])[:3], state)
                self.assertEqual(lost_by(setup, rule, row[:beats]), lost)
                self.assertEqual(parted_by(setup, rule, row[:beats]), parted)

    def test_a_row_beat_by_beat(self):
        row = [((4, 1), 1), ((), 0), ((2,), 0), ((4, 4), 1), ((), 0)]
        chairs = [
            ((("part", 3),), 0, 0, (0, 0)),
            ((("group", 1), ("group", 1)), 0, 0, (0, 0)),
            ((("group", 2), ("single", 1)), 0, 0, (0, 0)),
            ((("part", 2),), 0, 0, (0, 0)),
            ((("group", 2), ("part", 1)), 0, 0, (0, 0)),
        ]
        states = [
            (1, (1, 1), 1, 0),
            (0, (), 1, 0),
            (1, (), 0, 0),
            (0, (2, 4), 1, 0),
            (1, (3,), 1, 0),
        ]
        self.assertEqual(chairs_of(SETUP, RULE, row), chairs)
        for beats in range(5):
            self.assertEqual(state_after(SETUP, RULE, row[: beats + 1]), states[beats])
        self.assertEqual([parted_by(SETUP, RULE, row[:beats]) for beats in range(6)], [0, 1, 1, 1, 2, 3])
        self.assertEqual([lost_by(SETUP, RULE, row[:beats]) for beats in range(6)], [0] * 6)

    def test_lost_seats_together(self):
        row = [((1, 2), 0), ((1,), 0), ((2,), 0), ((1,), 0), ((), 0), ((), 0)]
        lost = [lost_by(EXAMPLE_SETUP, EXAMPLE_RULE, row[:beats]) for beats in range(7)]
        self.assertEqual(lost, [0, 1, 1, 2, 2, 2, 2])
        self.assertEqual(parted_by(EXAMPLE_SETUP, EXAMPLE_RULE, row), 0)
        lost = [lost_by(EXAMPLE_SETUP, (), row[:beats]) for beats in range(7)]
        self.assertEqual(lost, [0, 2, 4, 6, 8, 10, 12])
        self.assertEqual([type(number) for number in lost], [int] * 7)
        self.assertIs(type(parted_by(SETUP, RULE, [RIGHT])), int)


class TestArguments(unittest.TestCase):
    def test_what_is_passed_stays_as_it_was(self):
        for setup, rule, row in some_cases(31, 30, 12):
            kept = copy.deepcopy((setup, rule, row))
            for function in OF_ROWS:
                first = function(setup, rule, row)
                self.assertEqual(function(setup, rule, row), first)
                self.assertEqual((setup, rule, row), kept)
            for function in OF_RULES:
                function(setup, rule)
                self.assertEqual((setup, rule), kept[:2])
        for row in ([None], [RIGHT] * 301, [RIGHT, ((3,), 0)]):
            kept = copy.deepcopy(row)
            for function in OF_ROWS:
                with self.assertRaises(BadRow):
                    function(SETUP, RULE, row)
                self.assertEqual(row, kept)

    def test_the_row_is_not_kept(self):
        row = [((4, 1), 1), ((2,), 0)]
        answers = [function(SETUP, RULE, row) for function in OF_ROWS]
        kept = copy.deepcopy(answers)
        row.clear()
        self.assertEqual(answers, kept)
        self.assertEqual(chairs_of(SETUP, RULE, row), [])

    def test_lists_that_are_returned_are_new(self):
        row = [((4, 1), 1), ((2,), 0)]
        first = chairs_of(SETUP, RULE, row)
        kept = list(first)
        first.clear()
        self.assertEqual(chairs_of(SETUP, RULE, row), kept)
        self.assertIsNot(chairs_of(SETUP, RULE, row), chairs_of(SETUP, RULE, row))
        for function in OF_RULES:
            first = function(SETUP, RULE)
            kept = list(first)
            first.append(None)
            first.reverse()
            self.assertEqual(function(SETUP, RULE), kept)
            self.assertIsNot(function(SETUP, RULE), function(SETUP, RULE))

    def test_by_name_in_any_order(self):
        row = [((4, 1), 1), ((2,), 0)]
        for function in OF_ROWS:
            answer = function(SETUP, RULE, row)
            self.assertEqual(function(setup=SETUP, rule=RULE, row=row), answer)
            self.assertEqual(function(row=row, rule=RULE, setup=SETUP), answer)
            self.assertEqual(function(SETUP, row=row, rule=RULE), answer)
        for function in OF_RULES:
            answer = function(SETUP, RULE)
            self.assertEqual(function(rule=RULE, setup=SETUP), answer)
            self.assertEqual(function(SETUP, rule=RULE), answer)


if __name__ == "__main__":
    unittest.main()
