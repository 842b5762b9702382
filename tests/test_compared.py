import random
import unittest

from fillchairs.compared import alike_holds, gap_holds, gap_paper, greatest_gap, rules_alike
from fillchairs.errors import BadRule, BadSetup, TooMany
from tests.edges import GAPS
from tests.plain import always, busy_rule, like, plain_chairs, plain_comers, small_setup, some_row
from tests.plain_long import FIRST, plain_beat
from tests.plain_pairs import Both, is_gap_list
from tests.wrong import NO_INTEGERS, NO_LISTS, NO_RULES, NO_SETUPS, NO_TUPLES

SETUP = ((2,), (1, 2), (2, 1), (1, 1))
GROUPS = (always("group"), always("single"))
SINGLES = (always("single"), always("group"))
FIRSTS = (FIRST, FIRST)


def other_moods(rule):
    """The rule with the moods 1 and 2 exchanged."""
    names = (0, 2, 1)
    return tuple((names[mood], *rest, names[after]) for mood, *rest, after in rule)


def with_dead_rows(dice, rule):
    """The rule with rows that can never be carried out."""
    dead = (
        (dice.randint(0, 2), (0, 0), (0, 9), (0, 9), "group", 0),
        (dice.randint(0, 2), (0, 9), (0, 9), (0, 0), "single", 0),
        (dice.randint(0, 2), (6, 9), (0, 9), (0, 9), "go", 1),
        (dice.randint(0, 2), (0, 9), (6, 9), (0, 9), "go", 1),
        (dice.randint(0, 2), (0, 9), (5, 9), (0, 9), "part", 1),
    )
    at = dice.randint(0, len(rule))
    return (rule[:at] + (dice.choice(dead),) + rule[at:])[:8]


def once_unlike(dice):
    """Two rules by dice that seat as many as they can, but for one chair or a few by the first one."""
    deeds = dice.sample(("group", "single", "part"), 3)
    other = tuple(always(deed) for deed in deeds)
    rows = [always(deed, mood, mood) for mood in (0, 1) for deed in deeds]
    fit = ((0, (0, 9), (0, 9), (dice.randint(0, 1), 9), "go", 1), (0, (1, dice.randint(1, 5)), (0, 9), (0, 9), "go", 1))
    return (dice.choice(fit), *rows), other


def small_cases(seed, many):
    """Setups and pairs of rules by dice with at most six hundred pairs."""
    dice = random.Random(seed)
    cases = []
    while len(cases) < many:
        setup, rule = small_setup(dice, 1, 2), busy_rule(dice)
        other = dice.choice((like(dice, rule), other_moods(rule), with_dead_rows(dice, rule[:7])))
        if dice.random() < 0.3:
            other = busy_rule(dice)
        if dice.random() < 0.2:
            rule, other = once_unlike(dice)
        if len(Both(setup, rule, other).pairs()) <= 600:
            cases.append((setup, rule, other))
    return cases


def are_unlike(setup, rule, other, row):
    return plain_chairs(setup, rule, row)[0] != plain_chairs(setup, other, row)[0]


class TestRulesAlike(unittest.TestCase):
    def test_told_by_hand(self):
        setup = ((1,), (1,), (1, 1), (0, 1))
        self.assertEqual(rules_alike(setup, (), ()), ("same", [(FIRST, FIRST), ((0, (), 1, 0), (0, (), 1, 0))]))
        self.assertEqual(rules_alike(setup, (), (always("single"),)), ("other", [((), 1)]))
        self.assertEqual(rules_alike(setup, (), (always("group"),))[0], "same")
        moods = (always("single", 0, 1), always("single", 1, 0))
        self.assertEqual(rules_alike(setup, moods, (always("single"),)), (
            "same",
            [(FIRST, FIRST), ((0, (), 0, 1), FIRST)],
        ))
        self.assertEqual(rules_alike(setup, (always("single"),), moods), (
            "same",
            [(FIRST, FIRST), (FIRST, (0, (), 0, 1))],
        ))

    def test_the_rows_that_are_unlike(self):
        # Only a chair with a group of 2 in front and a single waiting tells these apart.
        kind, row = rules_alike(SETUP, GROUPS, SINGLES)
        self.assertEqual((kind, len(row)), ("other", 1))
        rule = ((0, (0, 9), (0, 9), (2, 9), "go", 0),)
        setup = ((1,), (1,), (1, 3), (0, 1))
        self.assertEqual(rules_alike(setup, rule, ())[0], "same")
        late = ((0, (0, 9), (0, 9), (3, 9), "single", 0),)
        self.assertEqual(rules_alike(setup, late, ()), ("other", [((), 1)] * 3))
        self.assertEqual(rules_alike(setup, (), late), ("other", [((), 1)] * 3))

    def test_a_mood_that_shows_later(self):
        # After the first single nobody sits any more.
        kind, row = rules_alike(((1,), (1,), (1, 1), (0, 2)), (always("single"),), (always("single", 0, 1),))
        self.assertEqual((kind, len(row)), ("other", 2))

    def test_against_a_plain_walk(self):
        kinds = []
        for setup, rule, other in small_cases(311, 300):
            both = Both(setup, rule, other)
            beats = both.unlike_after()
            answer = rules_alike(setup, rule, other)
            self.assertIs(type(answer), tuple)
            kinds.append(answer[0])
            if beats is None:
                self.assertEqual(answer, ("same", sorted(both.pairs())), (setup, rule, other))
                turned = [(pair[1], pair[0]) for pair in answer[1]]
                self.assertEqual(rules_alike(setup, other, rule), ("same", sorted(turned)))
            else:
                self.assertEqual((answer[0], len(answer[1])), ("other", beats), (setup, rule, other))
                self.assertIs(type(answer[1]), list)
                self.assertTrue(are_unlike(setup, rule, other, answer[1]))
                kind, row = rules_alike(setup, other, rule)
                self.assertEqual((kind, len(row)), ("other", beats))
        self.assertGreater(kinds.count("same"), 40)
        self.assertGreater(kinds.count("other"), 40)

    def test_a_rule_and_itself(self):
        for setup, rule, _ in small_cases(312, 40):
            kind, pairs = rules_alike(setup, rule, rule)
            self.assertEqual(kind, "same")
            self.assertTrue(all(state == other for state, other in pairs))

    def test_a_rule_with_dead_rows_and_other_moods(self):
        dice = random.Random(313)
        for setup, rule, _ in small_cases(314, 60):
            rule = rule[:7]
            self.assertEqual(rules_alike(setup, rule, with_dead_rows(dice, rule))[0], "same", (setup, rule))
            kind, pairs = rules_alike(setup, rule, other_moods(rule))
            self.assertEqual(kind, "same")
            self.assertTrue(all(other[3] == (0, 2, 1)[state[3]] for state, other in pairs))

    def test_no_error_for_many_pairs(self):
        setup = ((1, 2), (3, 4, 5), (3, 4), (2, 2))
        moods = (always("part", 0, 1), always("part", 1, 2), always("group", 2, 0), always("single", 2, 0))
        kind, pairs = rules_alike(setup, moods, other_moods(moods))
        self.assertEqual(kind, "same")
        self.assertGreater(len(pairs), 600)
        self.assertIs(alike_holds(setup, moods, other_moods(moods), (kind, pairs)), True)
        self.assertIs(alike_holds(setup, moods, other_moods(moods), (kind, pairs[1:])), False)


class TestAlikeHolds(unittest.TestCase):
    RULE = (always("group", 0, 1), always("single", 0, 1), always("single", 1, 0), always("group", 1, 0))
    OTHER = (always("group", 0, 2), always("single", 0, 2), always("single", 2, 0), always("group", 2, 0))

    def holds(self, answer, rule=RULE, other=OTHER, setup=SETUP):
        found = alike_holds(setup, rule, other, answer)
        self.assertIs(type(found), bool)
        return found

    def test_the_answers_of_rules_alike(self):
        for setup, rule, other in small_cases(315, 80):
            self.assertTrue(self.holds(rules_alike(setup, rule, other), rule, other, setup))

    def test_any_order_and_duplicates(self):
        _, pairs = rules_alike(SETUP, self.RULE, self.OTHER)
        self.assertGreater(len(pairs), 5)
        self.assertTrue(self.holds(("same", pairs[::-1])))
        self.assertTrue(self.holds(("same", pairs * 2)))

    def test_a_pair_left_out(self):
        _, pairs = rules_alike(SETUP, self.RULE, self.OTHER)
        for at in range(len(pairs)):
            self.assertFalse(self.holds(("same", pairs[:at] + pairs[at + 1 :])))
        self.assertFalse(self.holds(("same", [])))

    def test_pairs_that_come_after_no_row(self):
        _, pairs = rules_alike(SETUP, self.RULE, self.OTHER)
        comers = plain_comers(SETUP)
        states = [(0, line, singles, mood) for line in ((), (1,), (2, 5)) for singles in (0, 1) for mood in range(3)]
        answers = []
        for state in states:
            for other in states:
                if (state, other) not in pairs:
                    right = all(
                        plain_beat(SETUP, self.RULE, state, come)[0] == plain_beat(SETUP, self.OTHER, other, come)[0]
                        and (
                            plain_beat(SETUP, self.RULE, state, come)[1],
                            plain_beat(SETUP, self.OTHER, other, come)[1],
                        )
                        in pairs + [(state, other)]
                        for come in comers
                    )
                    answers.append(right)
                    self.assertEqual(self.holds(("same", pairs + [(state, other)])), right, (state, other))
        self.assertIn(True, answers)
        self.assertIn(False, answers)

    def test_pairs_for_rules_that_are_unlike(self):
        for setup, rule, other in small_cases(316, 60):
            both = Both(setup, rule, other)
            self.assertEqual(
                self.holds(("same", sorted(both.pairs())), rule, other, setup), both.unlike_after() is None
            )

    def test_rows(self):
        dice = random.Random(317)
        answers = []
        for setup, rule, other in small_cases(318, 60):
            for beats in (0, 1, 2, 3, 6, 12):
                row = some_row(dice, setup, beats)
                answers.append(are_unlike(setup, rule, other, row))
                self.assertEqual(self.holds(("other", row), rule, other, setup), answers[-1])
        self.assertGreater(answers.count(True), 20)
        self.assertGreater(answers.count(False), 20)

    def test_a_longer_row(self):
        kind, row = rules_alike(SETUP, GROUPS, SINGLES)
        calm = [((), 0)]
        self.assertTrue(self.holds((kind, row), GROUPS, SINGLES))
        self.assertTrue(self.holds((kind, row + calm * 2), GROUPS, SINGLES))
        self.assertTrue(self.holds((kind, calm * 3 + row), GROUPS, SINGLES))
        self.assertFalse(self.holds((kind, calm * 3), GROUPS, SINGLES))
        self.assertFalse(self.holds((kind, []), GROUPS, SINGLES))
        for beats in (299, 300, 301, 1000):
            self.assertTrue(self.holds((kind, calm * beats + row), GROUPS, SINGLES))
            self.assertFalse(self.holds((kind, calm * beats), GROUPS, SINGLES))

    def test_wrong_rows(self):
        kind, row = rules_alike(SETUP, GROUPS, SINGLES)
        for wrong in (*NO_LISTS, [None], row + [None], [((3,), 0)] + row, row + [((1,), True)], tuple(row)):
            self.assertFalse(self.holds((kind, wrong), GROUPS, SINGLES))

    def test_wrong_pairs(self):
        _, pairs = rules_alike(SETUP, self.RULE, self.OTHER)
        state, other = pairs[-1]
        wrong = [
            *NO_TUPLES,
            (),
            (state,),
            (state, other, other),
            [state, other],
            (list(state), other),
            (state, (1, (), 0, 0)),
            (state, (0, (), 2, 0)),
            (state, (0, (), 0, 3)),
            (state, (0, (6,), 0, 0)),
            (state, (0, (1, 1, 1), 0, 0)),
            (state, (0, [1], 0, 0)),
            ((False, *state[1:]), other),
            (state, None),
        ]
        for pair in wrong:
            self.assertFalse(self.holds(("same", pairs + [pair])), pair)
            self.assertFalse(self.holds(("same", pairs[:-1] + [pair])), pair)

    def test_any_object(self):
        _, pairs = rules_alike(SETUP, self.RULE, self.OTHER)
        for answer in (
            *NO_LISTS,
            *NO_TUPLES,
            ("same",),
            ("same", pairs, 0),
            ["same", pairs],
            ("same", tuple(pairs)),
            ("same", dict(pairs)),
            ("Same", pairs),
            (b"same", pairs),
            (None, pairs),
            ("other", pairs),
            (pairs, "same"),
            ("never", pairs),
        ):
            self.assertFalse(self.holds(answer), answer)
        for rest in NO_LISTS:
            self.assertFalse(self.holds(("same", rest)))
            self.assertFalse(self.holds(("other", rest)))


class TestGap(unittest.TestCase):
    def test_told_by_hand(self):
        setup = ((1,), (1,), (1, 1), (0, 1))
        alone = (always("single"),)
        self.assertEqual(greatest_gap(setup, (), ()), 0)
        self.assertEqual(greatest_gap(setup, alone, ()), 0)
        self.assertIsNone(greatest_gap(setup, (), alone))
        self.assertEqual(gap_paper(setup, alone, ()), [(FIRST, FIRST, 0), (FIRST, (0, (), 1, 0), 0)])

    def test_a_gap_that_comes_once(self):
        # By the first rule the first chair goes empty, and then nobody ever waits.
        setup = ((2,), (1,), (1, 1), (0, 1))
        rule = ((0, (0, 9), (0, 9), (1, 9), "go", 1), always("single", 1, 1))
        other = (always("single"),)
        self.assertEqual(greatest_gap(setup, rule, other), 2)
        self.assertEqual(gap_paper(setup, rule, other), [
            ((0, (), 0, 0), FIRST, 2),
            ((0, (), 0, 1), FIRST, 0),
            ((0, (), 1, 1), FIRST, 0),
        ])
        self.assertEqual(greatest_gap(setup, other, rule), 0)

    def test_equal_rules(self):
        for setup, rule, _ in small_cases(321, 40):
            self.assertEqual(greatest_gap(setup, rule, rule), 0)
            paper = gap_paper(setup, rule, rule)
            self.assertEqual({number for _, _, number in paper}, {0})
            self.assertTrue(all(state == other for state, other, _ in paper))

    def test_against_walks_of_all_pairs(self):
        gaps = []
        for setup, rule, other in small_cases(322, 300):
            numbers = Both(setup, rule, other).gaps()
            gap, paper = greatest_gap(setup, rule, other), gap_paper(setup, rule, other)
            gaps.append(gap)
            if numbers is None:
                self.assertIsNone(gap)
                self.assertIs(type(paper), tuple)
                self.check_ring(setup, rule, other, paper)
            else:
                self.assertEqual(gap, numbers[FIRSTS])
                self.assertEqual(paper, sorted((*pair, number) for pair, number in numbers.items()))
            self.assertIs(gap_holds(setup, rule, other, paper), True)
        self.assertGreater(gaps.count(None), 12)
        self.assertGreater(gaps.count(0), 20)
        self.assertGreater(len([gap for gap in gaps if gap]), 3)

    def check_ring(self, setup, rule, other, paper):
        ahead, again = paper
        self.assertEqual((type(ahead), type(again)), (list, list))
        lost = []
        for ruling in (rule, other):
            chairs, before = plain_chairs(setup, ruling, ahead)
            more_chairs, after = plain_chairs(setup, ruling, ahead + again)
            self.assertEqual(before, after)
            lost.append(sum(chair[2] for chair in more_chairs) - sum(chair[2] for chair in chairs))
        self.assertGreater(lost[0], lost[1])

    def test_gaps_of_rows_by_dice(self):
        dice = random.Random(323)
        for setup, rule, other in small_cases(324, 60):
            gap = greatest_gap(setup, rule, other)
            for beats in (1, 4, 30):
                row = some_row(dice, setup, beats)
                lost = [sum(chair[2] for chair in plain_chairs(setup, ruling, row)[0]) for ruling in (rule, other)]
                if gap is not None:
                    self.assertLessEqual(lost[0] - lost[1], gap)

    def test_around_six_hundred_pairs(self):
        for many, kind, setup, (rule, other) in GAPS:
            self.assertEqual(len(Both(setup, rule, other).pairs()), many)
            if many <= 600:
                paper = gap_paper(setup, rule, other)
                self.assertEqual(type(paper).__name__, kind)
                self.assertEqual(greatest_gap(setup, rule, other) is None, kind == "tuple")
                self.assertIs(gap_holds(setup, rule, other, paper), True)
                self.assertIs(gap_holds(setup, rule, other, None), False)
            else:
                for call in (greatest_gap, gap_paper):
                    with self.assertRaises(TooMany):
                        call(setup, rule, other)
                for paper in (None, [], ([], [((), 0)]), [(FIRST, FIRST, 0)]):
                    with self.assertRaises(TooMany):
                        gap_holds(setup, rule, other, paper)

    def test_too_many_comes_last(self):
        _, _, setup, (rule, other) = GAPS[-1]
        for call, rest in ((greatest_gap, ()), (gap_paper, ()), (gap_holds, (None,))):
            for wrong in NO_SETUPS:
                with self.assertRaises(BadSetup):
                    call(wrong, rule, other, *rest)
            for wrong in NO_RULES:
                with self.assertRaises(BadRule):
                    call(setup, wrong, other, *rest)
                with self.assertRaises(BadRule):
                    call(setup, rule, wrong, *rest)


class TestGapHolds(unittest.TestCase):
    # By the first rule two chairs go empty, once, that could be filled by the other one.
    RULE = (
        (0, (0, 9), (0, 9), (1, 9), "go", 1),
        (1, (0, 9), (0, 9), (1, 9), "go", 2),
        always("group", 0, 0),
        always("group", 1, 1),
        always("group", 2, 2),
        always("single", 2, 2),
    )
    OTHER = (always("group"), always("single"))
    SETUP = ((3,), (1, 2), (1, 1), (1, 1))

    def setUp(self):
        self.paper = gap_paper(self.SETUP, self.RULE, self.OTHER)

    def holds(self, paper, setup=SETUP, rule=RULE, other=OTHER):
        found = gap_holds(setup, rule, other, paper)
        self.assertIs(type(found), bool)
        return found

    def right(self, paper):
        return is_gap_list(self.SETUP, self.RULE, self.OTHER, paper)

    def test_the_paper(self):
        self.assertIs(type(self.paper), list)
        self.assertEqual(greatest_gap(self.SETUP, self.RULE, self.OTHER), max(entry[2] for entry in self.paper))
        self.assertGreater(len(self.paper), 6)
        self.assertTrue(self.right(self.paper))

    def test_any_order(self):
        self.assertTrue(self.holds(self.paper[::-1]))
        dice = random.Random(331)
        for _ in range(10):
            dice.shuffle(self.paper)
            self.assertTrue(self.holds(self.paper))

    def test_a_number_one_less_or_greater(self):
        answers = set()
        for at, (state, other, number) in enumerate(self.paper):
            for more in (-1, 1):
                paper = list(self.paper)
                paper[at] = (state, other, number + more)
                answers.add((more, self.right(paper)))
                self.assertEqual(self.holds(paper), self.right(paper), paper[at])
        self.assertIn((1, False), answers)
        self.assertIn((1, True), answers)
        self.assertNotIn((-1, True), answers)

    def test_all_numbers_greater_by_the_same(self):
        for more in (1, 7, 10**58):
            self.assertTrue(self.holds([(state, other, number + more) for state, other, number in self.paper]))
        self.assertFalse(self.holds([(state, other, number - 1) for state, other, number in self.paper]))

    def test_an_entry_left_out_or_twice(self):
        for at, (state, other, number) in enumerate(self.paper):
            self.assertFalse(self.holds(self.paper[:at] + self.paper[at + 1 :]))
            self.assertFalse(self.holds(self.paper + [(state, other, number)]))
            self.assertFalse(self.holds(self.paper + [(state, other, number + 1)]))
        self.assertFalse(self.holds([]))

    def test_pairs_that_come_after_no_row(self):
        states = [(0, line, singles, mood) for line in ((), (1,), (5,)) for singles in (0, 1) for mood in range(3)]
        known = {entry[:2] for entry in self.paper}
        answers = []
        for state in states:
            for other in states:
                if (state, other) not in known:
                    for number in (0, 2, 9):
                        paper = self.paper + [(state, other, number)]
                        answers.append(self.right(paper))
                        self.assertEqual(self.holds(paper), answers[-1], (state, other, number))
        self.assertIn(True, answers)
        self.assertIn(False, answers)

    def test_wrong_entries(self):
        state, other, number = self.paper[-1]
        wrong = [
            *NO_TUPLES,
            (),
            (state, other),
            (state, other, number, 0),
            ((state, other), number),
            [state, other, number],
            (list(state), other, number),
            (state, other, -1),
            (state, other, -(10**59)),
            (number, state, other),
            (state, (0, (), 0, 3), number),
            ((0, (6,), 0, 0), other, number),
            ((0, (), 2, 0), other, number),
            ((1, (), 0, 0), other, number),
            *[(state, other, wrong) for wrong in NO_INTEGERS],
            *[(state, wrong, number) for wrong in NO_TUPLES],
            *[(wrong, other, number) for wrong in NO_TUPLES],
        ]
        for entry in wrong:
            self.assertFalse(self.holds(self.paper + [entry]), entry)
            self.assertFalse(self.holds(self.paper[:-1] + [entry]), entry)

    def test_truths(self):
        for at, (state, other, number) in enumerate(self.paper):
            paper = list(self.paper)
            if number < 2:
                paper[at] = (state, other, bool(number))
                self.assertFalse(self.holds(paper))
            paper[at] = ((False, *state[1:]), other, number)
            self.assertFalse(self.holds(paper))

    def test_rules_by_dice(self):
        dice = random.Random(332)
        answers = []
        for setup, rule, other in small_cases(333, 80):
            paper = gap_paper(setup, rule, other)
            if isinstance(paper, list):
                for _ in range(3):
                    changed = [(*entry[:2], max(0, entry[2] + dice.choice((0, 0, 1, 2, -1)))) for entry in paper]
                    if dice.random() < 0.2:
                        changed.pop(dice.randrange(len(changed)))
                    answers.append(bool(changed) and is_gap_list(setup, rule, other, changed))
                    self.assertEqual(self.holds(changed, setup, rule, other), answers[-1])
        self.assertIn(True, answers)
        self.assertIn(False, answers)

    def test_rings(self):
        setup = ((2,), (1,), (1, 2), (0, 2))
        rule, other = (always("single", 0, 1), always("go", 1, 0)), (always("single"),)
        ahead, again = gap_paper(setup, rule, other)

        def holds(ring):
            return self.holds(ring, setup, rule, other)

        self.assertTrue(holds((ahead, again)))
        self.assertTrue(holds((ahead + again, again)))
        self.assertTrue(holds((ahead, again * 3)))
        self.assertTrue(holds((ahead, again * 301)))
        self.assertTrue(holds((ahead + again * 301, again)))
        self.assertFalse(holds((ahead, [])))
        self.assertFalse(self.holds((ahead, again), setup, other, rule))
        self.assertFalse(self.holds((ahead, again), setup, rule, rule))
        for ring in (
            [ahead, again],
            (ahead,),
            (ahead, again, again),
            (tuple(ahead), again),
            (ahead, tuple(again)),
            (again, None),
            (None, again),
            (ahead + [None], again),
            (ahead, again + [((), 3)]),
            (ahead, again + [((1,), 0)]),
            (ahead, again + [((), True)]),
            ([], []),
            (),
        ):
            self.assertFalse(holds(ring), ring)

    def test_rings_by_dice(self):
        dice = random.Random(334)
        answers = []
        for setup, rule, other in small_cases(335, 80):
            for _ in range(10):
                ahead, again = some_row(dice, setup, dice.randint(0, 3)), some_row(dice, setup, dice.randint(0, 3))
                back, gap = True, 0
                for ruling, sign in ((rule, 1), (other, -1)):
                    chairs, before = plain_chairs(setup, ruling, ahead)
                    more_chairs, after = plain_chairs(setup, ruling, ahead + again)
                    back = back and before == after
                    gap += sign * (sum(chair[2] for chair in more_chairs) - sum(chair[2] for chair in chairs))
                answers.append((back, gap > 0))
                self.assertEqual(self.holds((ahead, again), setup, rule, other), back and gap > 0)
        self.assertEqual(set(answers), {(back, grows) for back in (False, True) for grows in (False, True)})

    def test_any_object(self):
        for paper in (*NO_LISTS, *NO_TUPLES, tuple(self.paper), [self.paper], {entry[:2]: 0 for entry in self.paper}):
            if paper != []:
                self.assertFalse(self.holds(paper), paper)


if __name__ == "__main__":
    unittest.main()
