"""What holds for each function that takes a setup: its errors in order, its arguments, and what it returns."""

import copy
import itertools
import unittest

from fillchairs.ahead import (
    ahead_holds,
    ahead_paper,
    best_deeds,
    best_order,
    best_rules,
    deeds_lose,
    foes_of,
    least_lost,
    regret,
)
from fillchairs.back import (
    next_seen,
    row_back,
    rows_counted,
    seen_within,
    sizes_back,
    states_back,
    within_holds,
)
from fillchairs.best import best_mean, filler_holds, filler_paper, foe_holds, foe_paper
from fillchairs.compared import alike_holds, gap_holds, gap_paper, greatest_gap, rules_alike
from fillchairs.errors import (
    BadFraction,
    BadNumber,
    BadRow,
    BadRule,
    BadSeen,
    BadSetup,
    BadStanding,
    BadState,
    BadText,
    BadWalk,
    BadWho,
    ChairError,
    TooMany,
)
from fillchairs.means import greatest_mean, mean_paper, mean_ring, paper_holds, ring_holds
from fillchairs.more import one_more, one_more_holds
from fillchairs.standings import all_standings, moves_of, standing_of, walk_row
from fillchairs.texts import read_row
from fillchairs.waits import greatest_wait, wait_of, wait_paper, wait_row, waits_fall
from tests.plain import EXAMPLE_RULE, EXAMPLE_SETUP
from tests.wrong import NO_FRACTIONS, NO_LISTS, NO_RULES, NO_SETUPS, NO_TUPLES, NO_WHOS

RING = ([((1,), 0)], [((1, 2), 0), ((), 0)])
WALK = [(1, (0, 2, 0, 0, 0)), (0, (0, 1, 0, 0, 0))]
ROW = [((1, 2), 1), ((1,), 1)]
FRACTION = (("above", 1), ("below", 2))
WHO = ("who", "group")
OTHER = EXAMPLE_RULE[::-1]
SEEN = [((("group", 1), ("single", 1)), 0)]
BOTH = {"setup": EXAMPLE_SETUP, "rule": EXAMPLE_RULE}
THREE = {**BOTH, "other": OTHER}
AHEAD = {"setup": EXAMPLE_SETUP, "row": ROW}

# Each function with right arguments, by name, in the order of its parameters.
CALLS = (
    (standing_of, {"setup": EXAMPLE_SETUP, "state": (0, (2, 1), 1, 0)}),
    (moves_of, {"setup": EXAMPLE_SETUP, "rule": EXAMPLE_RULE, "standing": (0, 1, 1, 2, 0)}),
    (all_standings, {"setup": EXAMPLE_SETUP, "rule": EXAMPLE_RULE}),
    (walk_row, {"setup": EXAMPLE_SETUP, "rule": EXAMPLE_RULE, "walk": WALK}),
    (greatest_mean, {"setup": EXAMPLE_SETUP, "rule": EXAMPLE_RULE}),
    (mean_ring, {"setup": EXAMPLE_SETUP, "rule": EXAMPLE_RULE}),
    (ring_holds, {"setup": EXAMPLE_SETUP, "rule": EXAMPLE_RULE, **dict(FRACTION), "ring": RING}),
    (mean_paper, {"setup": EXAMPLE_SETUP, "rule": EXAMPLE_RULE}),
    (
        paper_holds,
        {
            "setup": EXAMPLE_SETUP,
            "rule": EXAMPLE_RULE,
            **dict(FRACTION),
            "paper": mean_paper(EXAMPLE_SETUP, EXAMPLE_RULE),
        },
    ),
    (best_mean, {"setup": EXAMPLE_SETUP}),
    (filler_paper, {"setup": EXAMPLE_SETUP}),
    (foe_paper, {"setup": EXAMPLE_SETUP}),
    (filler_holds, {"setup": EXAMPLE_SETUP, **dict(FRACTION), "paper": filler_paper(EXAMPLE_SETUP)}),
    (foe_holds, {"setup": EXAMPLE_SETUP, **dict(FRACTION), "paper": foe_paper(EXAMPLE_SETUP)}),
    (wait_of, {"setup": EXAMPLE_SETUP, "rule": EXAMPLE_RULE, "row": ROW, "who": "group", "number": 1}),
    (greatest_wait, {"setup": EXAMPLE_SETUP, "rule": EXAMPLE_RULE, "who": "group"}),
    (wait_row, {"setup": EXAMPLE_SETUP, "rule": EXAMPLE_RULE, "who": "group"}),
    (wait_row, {"setup": EXAMPLE_SETUP, "rule": EXAMPLE_RULE, "who": "single"}),
    (wait_paper, {"setup": EXAMPLE_SETUP, "rule": EXAMPLE_RULE, "who": "group"}),
    (
        waits_fall,
        {
            "setup": EXAMPLE_SETUP,
            "rule": EXAMPLE_RULE,
            "who": "group",
            "paper": wait_paper(EXAMPLE_SETUP, EXAMPLE_RULE, "group"),
        },
    ),
    (one_more, BOTH),
    (one_more, {**BOTH, "rule": OTHER}),
    (one_more_holds, {**BOTH, "answer": one_more(EXAMPLE_SETUP, EXAMPLE_RULE)}),
    (one_more_holds, {**BOTH, "rule": OTHER, "answer": one_more(EXAMPLE_SETUP, OTHER)}),
    (rules_alike, THREE),
    (rules_alike, {**THREE, "other": EXAMPLE_RULE}),
    (alike_holds, {**THREE, "answer": rules_alike(EXAMPLE_SETUP, EXAMPLE_RULE, OTHER)}),
    (greatest_gap, {**THREE, "other": ()}),
    (gap_paper, {**THREE, "other": ()}),
    (gap_paper, {**THREE, "rule": ()}),
    (gap_holds, {**THREE, "other": (), "paper": gap_paper(EXAMPLE_SETUP, EXAMPLE_RULE, ())}),
    (gap_holds, {**THREE, "rule": (), "paper": gap_paper(EXAMPLE_SETUP, (), OTHER)}),
    (least_lost, {**AHEAD, "parts": 1}),
    (best_deeds, {**AHEAD, "parts": 1}),
    (deeds_lose, {**AHEAD, "deeds": best_deeds(EXAMPLE_SETUP, ROW, parts=1), "parts": 1}),
    (regret, {**BOTH, "row": ROW}),
    (ahead_paper, {**AHEAD, "parts": 1}),
    (ahead_holds, {**AHEAD, "most": 0, "paper": ahead_paper(EXAMPLE_SETUP, ROW, parts=1), "parts": 1}),
    (best_rules, {"setup": EXAMPLE_SETUP, "rules": [EXAMPLE_RULE, OTHER, ()]}),
    (foes_of, {"setup": EXAMPLE_SETUP, "rules": [EXAMPLE_RULE, OTHER, ()]}),
    (best_order, BOTH),
    (states_back, {**BOTH, "seen": SEEN}),
    (row_back, {**BOTH, "seen": SEEN}),
    (next_seen, {**BOTH, "seen": SEEN}),
    (rows_counted, {**BOTH, "seen": SEEN}),
    (sizes_back, {**BOTH, "seen": SEEN}),
    (seen_within, THREE),
    (seen_within, {**THREE, "other": ()}),
    (within_holds, {**THREE, "answer": seen_within(EXAMPLE_SETUP, EXAMPLE_RULE, OTHER)}),
    (within_holds, {**THREE, "other": (), "answer": seen_within(EXAMPLE_SETUP, EXAMPLE_RULE, ())}),
    (read_row, {"setup": EXAMPLE_SETUP, "text": "12+1 -+0"}),
)

# What a function raises for these objects in the place of a parameter; the others accept any object.
WRONG = {
    "setup": (BadSetup, NO_SETUPS),
    "rule": (BadRule, NO_RULES),
    "state": (BadState, (*NO_TUPLES, (), (0, (6,), 0, 0))),
    "standing": (BadStanding, (*NO_TUPLES, (), (0, 0, 1, 0, 0))),
    "walk": (BadWalk, (*NO_LISTS, [None], [(0, (0, 2, 1, 0, 0))])),
    "row": (BadRow, (*NO_LISTS, [None], [((3,), 0)])),
    "above": (BadFraction, (-1, True, None, "1")),
    "below": (BadFraction, (0, -1, True, None, "1")),
    "who": (BadWho, NO_WHOS),
    "number": (BadNumber, (-1, 99, True, None, "0")),
    "other": (BadRule, NO_RULES),
    "most": (BadNumber, (-1, True, None, "0")),
    "parts": (BadNumber, (-1, True, None, "0")),
    "rules": (BadRule, (*NO_LISTS, [], [None], [()] * 9)),
    "seen": (BadSeen, (*NO_LISTS, [None], [((), 6)], [((), 0)] * 31)),
    "text": (BadText, (*NO_TUPLES[:4], "x", " ")),
}
JUDGES = (
    ring_holds,
    paper_holds,
    filler_holds,
    foe_holds,
    waits_fall,
    one_more_holds,
    alike_holds,
    gap_holds,
    ahead_holds,
    within_holds,
)
# What a judge judges, and what is passed by name only.
JUDGED = ("ring", "paper", "answer")
BY_NAME = ("parts",)


def split_names(right):
    """The arguments that may be passed by position, and those that are passed by name only."""
    by_name = {name: right[name] for name in right if name in BY_NAME}
    return [right[name] for name in right if name not in by_name], by_name


def without_iterators(things):
    """The things that can be copied and compared."""
    return [thing for thing in things if not hasattr(thing, "__next__")]


class TestErrors(unittest.TestCase):
    def test_each_parameter(self):
        for function, right in CALLS:
            for name in right:
                for wrong in WRONG[name][1] if name in WRONG else ():
                    with self.subTest(f"{function.__name__} {name} {wrong!r}"):
                        with self.assertRaises(WRONG[name][0]) as caught:
                            function(**{**right, name: wrong})
                        self.assertIs(type(caught.exception), WRONG[name][0])
                        self.assertIsInstance(caught.exception, ChairError)

    def test_the_first_of_two_wrong_parameters(self):
        for function, right in CALLS:
            names = [name for name in right if name in WRONG]
            for first, second in itertools.combinations(names, 2):
                for wrong in WRONG[first][1][:6]:
                    for other in WRONG[second][1][:6]:
                        with self.subTest(f"{function.__name__} {first} {wrong!r} {second} {other!r}"):
                            with self.assertRaises(WRONG[first][0]):
                                function(**{**right, first: wrong, second: other})

    def test_all_wrong(self):
        for function, right in CALLS:
            with self.assertRaises(BadSetup):
                function(**dict.fromkeys(right))

    def test_judges_look_at_the_paper_last(self):
        for function, right in CALLS:
            if function in JUDGES:
                (judged,) = [name for name in right if name in JUDGED]
                for wrong in NO_LISTS:
                    self.assertIs(function(**{**right, judged: wrong}), False)
                    for name in right:
                        if name != judged:
                            with self.assertRaises(WRONG[name][0]):
                                function(**{**right, name: WRONG[name][1][0], judged: wrong})

    def test_fractions(self):
        for function, right in CALLS:
            if "above" in right:
                for above, below in NO_FRACTIONS:
                    with self.assertRaises(BadFraction):
                        function(**{**right, "above": above, "below": below})

    def test_too_many_comes_after_bad_fraction(self):
        setup = ((3, 3), (1, 2, 5), (3, 3), (2, 2))
        for function, right in CALLS:
            if function in (filler_holds, foe_holds):
                with self.assertRaises(TooMany):
                    function(**{**right, "setup": setup})
                with self.assertRaises(TooMany):
                    function(**{**right, "setup": setup, "paper": None})
                with self.assertRaises(BadFraction):
                    function(**{**right, "setup": setup, "below": 0, "paper": None})


class TestArguments(unittest.TestCase):
    def test_by_position_and_by_name_in_any_order(self):
        for function, right in CALLS:
            by_position, by_name = split_names(right)
            answer = function(*by_position, **by_name)
            self.assertEqual(function(**right), answer)
            self.assertEqual(function(**dict(reversed(right.items()))), answer)
            first, *others = right
            self.assertEqual(function(right[first], **{name: right[name] for name in others}), answer)
            if by_name:
                with self.assertRaises(TypeError):
                    function(*right.values())

    def test_what_is_passed_stays_as_it_was(self):
        for function, right in CALLS:
            kept = copy.deepcopy(right)
            function(**right)
            self.assertEqual(right, kept)
            for name in right:
                for wrong in without_iterators(WRONG[name][1] if name in WRONG else ()):
                    if isinstance(wrong, (list, tuple, dict)):
                        shown = repr(wrong)
                        with self.assertRaises(ChairError):
                            function(**{**right, name: wrong})
                        self.assertEqual(repr(wrong), shown)

    def test_equal_calls_return_equal_results(self):
        for function, right in CALLS:
            answer = function(**right)
            for _ in range(3):
                self.assertEqual(function(**copy.deepcopy(right)), answer)


class TestAnswers(unittest.TestCase):
    def lists_in(self, answer):
        if isinstance(answer, list):
            return [answer] + [found for part in answer for found in self.lists_in(part)]
        if isinstance(answer, tuple):
            return [found for part in answer for found in self.lists_in(part)]
        return []

    def test_lists_are_new(self):
        many = 0
        for function, right in CALLS:
            answer = function(**right)
            kept = copy.deepcopy(answer)
            for found in self.lists_in(answer):
                many += 1
                found.append(None)
                found.reverse()
                self.assertEqual(function(**right), kept)
            passed = self.lists_in(tuple(right.values()))
            for found in self.lists_in(function(**right)):
                self.assertFalse(any(found is other for other in passed))
        self.assertGreaterEqual(many, 35)

    def test_what_is_passed_is_not_kept(self):
        for function, right in CALLS:
            passed = copy.deepcopy(right)
            answer = function(**passed)
            kept = copy.deepcopy(answer)
            for found in self.lists_in(tuple(passed.values())):
                found.clear()
            self.assertEqual(answer, kept)
            self.assertEqual(function(**right), kept)

    def test_kinds(self):
        kinds = {
            standing_of: tuple,
            moves_of: list,
            all_standings: list,
            walk_row: list,
            greatest_mean: tuple,
            mean_ring: tuple,
            mean_paper: list,
            best_mean: tuple,
            filler_paper: list,
            foe_paper: list,
            wait_of: int,
            greatest_wait: int,
            wait_row: tuple,
            wait_paper: list,
            one_more: tuple,
            rules_alike: tuple,
            least_lost: int,
            best_deeds: list,
            deeds_lose: int,
            regret: int,
            ahead_paper: list,
            best_rules: tuple,
            foes_of: list,
            best_order: tuple,
            states_back: list,
            row_back: list,
            next_seen: list,
            rows_counted: int,
            sizes_back: list,
            seen_within: tuple,
            read_row: list,
            greatest_gap: int,
            **dict.fromkeys(JUDGES, bool),
        }
        for function, right in CALLS:
            if function is gap_paper:
                kinds[gap_paper] = list if right["rule"] else tuple
            self.assertIs(type(function(**right)), kinds[function], function)
            if function in JUDGES:
                self.assertIs(function(**right), True)


if __name__ == "__main__":
    unittest.main()
