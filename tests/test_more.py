import random
import unittest

from fillchairs.errors import TooMany
from fillchairs.more import one_more, one_more_holds
from tests.edges import MORE
from tests.plain import EXAMPLE_RULE, EXAMPLE_SETUP, always, plain_chairs, plain_comers, small_setup, some_rule
from tests.plain_long import plain_graph
from tests.plain_pairs import calm, is_calm, more_by_rows, pairs_after, plain_more, with_one_more
from tests.wrong import NO_INTEGERS, NO_LISTS, NO_TUPLES

# Singles sit first, and then the group of 2 does not find room.
SETUP = ((2,), (1, 2), (2, 2), (1, 1))
SINGLES_FIRST = (always("single"), always("group"))
GROUPS_FIRST = (always("group"), always("single"))


def small_cases(seed, many):
    """Setups and rules by dice with at most six hundred pairs; in some of them one single more is worse."""
    dice = random.Random(seed)
    cases = []
    while len(cases) < many:
        setup, rule = small_setup(dice, 2, 2), some_rule(dice)
        if dice.random() < 0.6:
            rule = rule[:3] + SINGLES_FIRST
        if len(plain_more(setup, rule)[1]) <= 600:
            cases.append((setup, rule))
    return cases


def is_worse(pair):
    return len(pair[1][1]) > len(pair[0][1])


def shows(setup, rule, row, place):
    """Whether one single more at this place of the row makes more groups wait, and nobody is turned away."""
    other = with_one_more(row, place)
    chairs, state = plain_chairs(setup, rule, row)
    other_chairs, other_state = plain_chairs(setup, rule, other)
    return (
        other[place][1] <= setup[3][1]
        and is_calm(chairs)
        and is_calm(other_chairs)
        and is_worse((state, other_state))
    )


def is_never(setup, rule, pairs):
    """Whether pairs show that one single more never makes more groups wait, by the words of the document."""
    graph = plain_graph(setup, rule)
    starts, _ = plain_more(setup, rule)
    beats = {state: calm(ways) for state, ways in graph.items()}
    return (
        set(starts) <= set(pairs)
        and all(after in pairs for pair in pairs for after in pairs_after(beats, pair))
        and not any(is_worse(pair) for pair in pairs)
    )


class TestOneMore(unittest.TestCase):
    def test_told_by_hand(self):
        self.assertEqual(one_more(((2,), (2,), (1, 1), (1, 1)), SINGLES_FIRST), ("row", [((2,), 0)], 0))
        self.assertEqual(one_more(((1,), (1,), (1, 1), (0, 1)), ()), (
            "never",
            [((0, (), 0, 0), (0, (), 1, 0))],
        ))
        self.assertEqual(one_more(((1,), (1,), (1, 1), (0, 1)), (always("single"),)), (
            "never",
            [((0, (), 0, 0), (0, (), 0, 0))],
        ))

    def test_singles_that_wait_until_the_group_comes(self):
        # The single more sits in the second chair only, in the place of the group.
        rule = ((0, (2, 2), (0, 9), (1, 9), "single", 0), always("group"))
        kind, row, place = one_more(((2,), (2,), (1, 1), (1, 1)), rule)
        self.assertEqual((kind, len(row), place), ("row", 1, 0))
        rule = ((0, (2, 2), (0, 9), (2, 9), "single", 0), always("group"))
        kind, row, place = one_more(((2,), (2,), (1, 2), (1, 1)), rule)
        self.assertEqual((kind, len(row)), ("row", 2))
        self.assertTrue(shows(((2,), (2,), (1, 2), (1, 1)), rule, row, place))

    def test_the_example(self):
        self.assertEqual(one_more(EXAMPLE_SETUP, EXAMPLE_RULE)[0], "never")
        self.assertEqual(one_more(EXAMPLE_SETUP, EXAMPLE_RULE[::-1])[0], "row")

    def test_setups_in_which_no_single_can_come(self):
        for setup in (((2,), (1, 2), (2, 2), (2, 0)), ((2,), (1, 2), (2, 0), (2, 2)), ((3, 1), (4,), (1, 0), (0, 2))):
            for rule in ((), SINGLES_FIRST, GROUPS_FIRST):
                self.assertEqual(one_more(setup, rule), ("never", []))

    def test_against_a_plain_search(self):
        kinds = []
        for setup, rule in small_cases(301, 250):
            _, pairs = plain_more(setup, rule)
            worse = [far for pair, far in pairs.items() if is_worse(pair)]
            answer = one_more(setup, rule)
            self.assertIs(type(answer), tuple)
            kinds.append(answer[0])
            if worse:
                kind, row, place = answer
                self.assertEqual((kind, len(row)), ("row", min(worse)), (setup, rule))
                self.assertIs(type(row), list)
                self.assertTrue(0 <= place < len(row))
                self.assertTrue(shows(setup, rule, row, place), (setup, rule))
            else:
                self.assertEqual(answer, ("never", sorted(pairs)), (setup, rule))
        self.assertGreater(kinds.count("never"), 20)
        self.assertGreater(kinds.count("row"), 15)

    def test_against_all_short_rows(self):
        for setup, rule in small_cases(302, 40):
            setup = (setup[0], setup[1][:1], setup[2], (min(1, setup[3][0]), setup[3][1]))
            pairs = more_by_rows(setup, rule, 3)
            answer = one_more(setup, rule)
            if answer[0] == "never":
                self.assertLessEqual(pairs, set(answer[1]))
                self.assertEqual(len(answer[1]), len(set(answer[1])))
            self.assertEqual(any(is_worse(pair) for pair in pairs), answer[0] == "row" and len(answer[1]) <= 3)

    def test_places_later_than_the_first(self):
        answers = [one_more(setup, rule) for setup, rule in small_cases(303, 150)]
        places = {answer[2] for answer in answers if answer[0] == "row"}
        self.assertIn(0, places)
        self.assertGreater(len(places), 1)

    def test_around_six_hundred_pairs(self):
        for many, kind, setup, rule in MORE:
            _, pairs = plain_more(setup, rule)
            self.assertEqual(len(pairs), many)
            self.assertEqual(any(is_worse(pair) for pair in pairs), kind == "row")
            if many <= 600:
                answer = one_more(setup, rule)
                self.assertEqual(answer[0], kind)
                self.assertIs(one_more_holds(setup, rule, answer), True)
                if kind == "never":
                    self.assertEqual(answer[1], sorted(pairs))
            else:
                with self.assertRaises(TooMany):
                    one_more(setup, rule)
                for answer in (None, ("never", sorted(pairs)), ("never", []), ("row", [((), 0)], 0)):
                    with self.assertRaises(TooMany):
                        one_more_holds(setup, rule, answer)

    def test_many_states_but_no_pairs(self):
        # Without singles there are no pairs, however many states there are.
        rule = (always("part", 0, 1), always("group", 1, 2), always("group", 2, 0))
        setup = ((1, 2), (3, 4, 5), (3, 4), (2, 0))
        self.assertGreater(len(plain_graph(setup, rule)), 100)
        self.assertEqual(one_more(setup, rule), ("never", []))

    def test_numbers_at_their_bounds(self):
        setup = ((5, 4), (1, 3, 5), (3, 4), (2, 2))
        for rule in ((), SINGLES_FIRST, GROUPS_FIRST, (always("part", 0, 1), always("single", 1, 2), always("go", 2))):
            try:
                answer = one_more(setup, rule)
            except TooMany:
                answer = None
            if answer:
                self.assertTrue(one_more_holds(setup, rule, answer))


class TestOneMoreHolds(unittest.TestCase):
    def holds(self, answer, setup=SETUP, rule=GROUPS_FIRST):
        found = one_more_holds(setup, rule, answer)
        self.assertIs(type(found), bool)
        return found

    def test_the_answers_of_one_more(self):
        for setup, rule in small_cases(304, 80):
            self.assertTrue(self.holds(one_more(setup, rule), setup, rule))

    def test_any_order_and_duplicates(self):
        _, pairs = one_more(SETUP, GROUPS_FIRST)
        self.assertEqual(len(pairs), 5)
        self.assertTrue(self.holds(("never", pairs[::-1])))
        self.assertTrue(self.holds(("never", pairs + pairs)))
        self.assertTrue(self.holds(("never", pairs[3:] + pairs[:4])))

    def test_a_pair_left_out(self):
        _, pairs = one_more(SETUP, GROUPS_FIRST)
        for at in range(len(pairs)):
            self.assertFalse(self.holds(("never", pairs[:at] + pairs[at + 1 :])))
        self.assertFalse(self.holds(("never", [])))

    def test_pairs_more(self):
        # With these all of their own pairs stand, too, but some are no pairs after rows.
        _, pairs = one_more(SETUP, GROUPS_FIRST)
        same = [(state, state) for state in plain_graph(SETUP, GROUPS_FIRST)]
        self.assertTrue(self.holds(("never", pairs + same)))
        odd = ((0, (2, 2), 1, 2), (0, (2, 2), 1, 2))
        self.assertNotIn(odd, pairs)
        # Of a mood that no row of the rule has, nobody sits: with one and the same lines nothing is ever worse.
        idle = [
            ((0, line, singles, 2), (0, line, singles, 2))
            for line in ((), (1,), (2,), (1, 1), (1, 2), (2, 1), (2, 2))
            for singles in range(3)
        ]
        self.assertTrue(self.holds(("never", pairs + idle)))
        for at, pair in enumerate(idle):
            led = [other for other in idle if other != pair]
            full = pair[0][1:3] == ((), 0)
            self.assertEqual(self.holds(("never", pairs + led)), full, pair)

    def test_a_pair_by_which_more_groups_wait(self):
        _, pairs = one_more(SETUP, GROUPS_FIRST)
        worse = ((0, (1,), 2, 2), (0, (1, 2), 2, 2))
        self.assertFalse(self.holds(("never", pairs + [worse])))
        for setup, rule in small_cases(305, 80):
            _, pairs = plain_more(setup, rule)
            if any(is_worse(pair) for pair in pairs):
                self.assertFalse(self.holds(("never", sorted(pairs)), setup, rule))
                calm_ones = sorted(pair for pair in pairs if not is_worse(pair))
                self.assertFalse(self.holds(("never", calm_ones), setup, rule))

    def test_changed_lists(self):
        dice = random.Random(306)
        answers = []
        for setup, rule in small_cases(307, 60):
            kind, *rest = one_more(setup, rule)
            if kind == "never" and rest[0]:
                states = list(plain_graph(setup, rule))
                for _ in range(6):
                    pairs = list(rest[0])
                    if dice.random() < 0.4:
                        pairs.pop(dice.randrange(len(pairs)))
                    else:
                        pairs.append((dice.choice(states), dice.choice(states)))
                    answers.append(is_never(setup, rule, pairs))
                    self.assertEqual(self.holds(("never", pairs), setup, rule), answers[-1], (setup, rule, pairs))
        self.assertIn(True, answers)
        self.assertIn(False, answers)

    def test_pairs_of_no_states(self):
        _, pairs = one_more(SETUP, GROUPS_FIRST)
        state, other = pairs[0]
        wrong = [
            *NO_TUPLES,
            (),
            (state,),
            (state, other, other),
            [state, other],
            (list(state), other),
            (state, list(other)),
            (state, None),
            (None, None),
            (state, (1, (), 0, 0)),
            (state, (0, (), 3, 0)),
            (state, (0, (), 0, 3)),
            (state, (0, (6,), 0, 0)),
            (state, (0, (0,), 0, 0)),
            (state, (0, (1, 1, 1), 0, 0)),
            (state, (0, [1], 0, 0)),
            (state, (0, (), False, 0)),
            (state, (False, (), 0, 0)),
            (state, (0, (True,), 0, 0)),
            (state, (0, (), 0)),
        ]
        for pair in wrong:
            self.assertFalse(self.holds(("never", pairs + [pair])), pair)
            self.assertFalse(self.holds(("never", [pair] + pairs[1:])), pair)

    def test_a_longer_row(self):
        setup = ((2,), (2,), (1, 1), (1, 1))
        self.assertTrue(self.holds(("row", [((2,), 0)], 0), setup, SINGLES_FIRST))
        # The group sits in the second chair, and then the next one finds another single again.
        longer = [((), 0), ((), 1), ((2,), 0)]
        self.assertTrue(self.holds(("row", longer, 2), setup, SINGLES_FIRST))
        self.assertFalse(self.holds(("row", longer + [((), 0)], 2), setup, SINGLES_FIRST))
        self.assertFalse(self.holds(("row", longer, 0), setup, SINGLES_FIRST))
        self.assertFalse(self.holds(("row", longer, 1), setup, SINGLES_FIRST))

    def test_rows_of_more_than_three_hundred_beats(self):
        setup = ((2,), (2,), (1, 1), (1, 1))
        for beats in (299, 300, 301, 900):
            row = [((), 0)] * beats + [((2,), 0)]
            self.assertTrue(self.holds(("row", row, beats), setup, SINGLES_FIRST))
            self.assertFalse(self.holds(("row", row, beats - 1), setup, SINGLES_FIRST))

    def test_rows_and_places_against_the_words(self):
        dice = random.Random(308)
        answers = []
        for setup, rule in small_cases(309, 60):
            comers = plain_comers(setup)
            for _ in range(40):
                row = [dice.choice(comers) for _ in range(dice.randint(1, 4))]
                for place in range(len(row)):
                    answers.append(shows(setup, rule, row, place))
                    self.assertEqual(self.holds(("row", row, place), setup, rule), answers[-1])
        self.assertGreater(answers.count(True), 5)

    def test_rows_by_which_somebody_is_turned_away(self):
        setup = ((2,), (2,), (1, 1), (2, 2))
        self.assertTrue(self.holds(("row", [((2,), 0)], 0), setup, SINGLES_FIRST))
        # A second group, or a second single, finds no room.
        self.assertFalse(self.holds(("row", [((2, 2), 0)], 0), setup, SINGLES_FIRST))
        self.assertFalse(self.holds(("row", [((2,), 1)], 0), setup, SINGLES_FIRST))
        rule = ((0, (0, 9), (0, 9), (2, 9), "single", 0), always("group"))
        self.assertTrue(self.holds(("row", [((2,), 1)], 0), ((2,), (2,), (1, 2), (2, 2)), rule))
        self.assertFalse(self.holds(("row", [((2,), 1)], 0), ((2,), (2,), (1, 1), (2, 2)), rule))

    def test_more_singles_than_may_come(self):
        self.assertFalse(self.holds(("row", [((2,), 1)], 0), ((2,), (2,), (1, 2), (1, 1)), SINGLES_FIRST))
        self.assertFalse(self.holds(("row", [((2,), 0)], 0), ((2,), (2,), (1, 2), (1, 0)), SINGLES_FIRST))

    def test_wrong_places(self):
        setup = ((2,), (2,), (1, 1), (1, 1))
        row = [((2,), 0)]
        for place in (*NO_INTEGERS, -1, 1, 2, 10**59, -(10**59)):
            self.assertFalse(self.holds(("row", row, place), setup, SINGLES_FIRST), place)
        row = [((), 0), ((2,), 0)]
        self.assertTrue(self.holds(("row", row, 1), setup, SINGLES_FIRST))
        self.assertFalse(self.holds(("row", row, True), setup, SINGLES_FIRST))
        self.assertFalse(self.holds(("row", row, -1), setup, SINGLES_FIRST))

    def test_places_before_the_first_beat(self):
        for place in (-1, -2):
            self.assertFalse(self.holds(("row", [((2,), 0)] * 2, place), ((2,), (2,), (3, 1), (1, 1)), ()))

    def test_wrong_rows(self):
        setup = ((2,), (2,), (1, 1), (1, 1))
        for row in (*NO_LISTS, [], [None], [((2,), 0), None], [((1,), 0)], [[(2,), 0]], [((2,), False)], [((2,), 2)]):
            self.assertFalse(self.holds(("row", row, 0), setup, SINGLES_FIRST), row)
        self.assertFalse(self.holds(("row", (((2,), 0),), 0), setup, SINGLES_FIRST))

    def test_any_object(self):
        setup = ((2,), (2,), (1, 1), (1, 1))
        _, pairs = one_more(SETUP, GROUPS_FIRST)
        right = [((2,), 0)]
        wrong = [
            *NO_LISTS,
            *NO_TUPLES,
            ("never",),
            ("never", pairs, 0),
            ("never", tuple(pairs)),
            ["never", pairs],
            ("Never", pairs),
            ("never ", pairs),
            (b"never", pairs),
            (None, pairs),
            (("never",), pairs),
            ("row", pairs),
            (pairs, "never"),
            ("never", {pair: True for pair in pairs}),
            ("never", None),
        ]
        for answer in wrong:
            self.assertFalse(self.holds(answer), answer)
        for answer in (("row", right), ("row", right, 0, 0), ["row", right, 0], ("never", right, 0), ("row", 0, right)):
            self.assertFalse(self.holds(answer, setup, SINGLES_FIRST), answer)
        for rest in NO_LISTS:
            self.assertFalse(self.holds(("never", rest)), rest)
        self.assertTrue(self.holds(("never", []), ((2,), (1, 2), (2, 2), (2, 0))))
        for rest in NO_LISTS:
            self.assertFalse(self.holds(("never", rest), ((2,), (1, 2), (2, 2), (2, 0))), rest)


if __name__ == "__main__":
    unittest.main()
