import random
import unittest

from fillchairs.back import seen_within, within_holds
from fillchairs.beats import all_states
from fillchairs.errors import TooMany
from tests.edges import WITHIN
from tests.plain import always, busy_rule, like, plain_chairs, plain_comers, small_setup, some_row
from tests.plain_long import FIRST, plain_beat
from tests.plain_pairs import plain_within, rows_by_seen, seen_of
from tests.wrong import NO_LISTS, NO_TUPLES

# The second rule does all that the first one does, and more.
SETUP = ((2,), (1, 2), (2, 1), (1, 1))
RULE = (always("group"), always("single"))
OTHER = ((0, (0, 9), (0, 9), (0, 0), "group", 0), always("group", 0, 0), always("single", 0, 0))


def small_cases(seed, many):
    """Setups and pairs of rules by dice, with at most six hundred pairs."""
    dice = random.Random(seed)
    cases = []
    while len(cases) < many:
        setup, rule = small_setup(dice, 1, 2), busy_rule(dice)
        other = like(dice, rule)
        if len(plain_within(setup, rule, other)[0]) <= 600:
            cases.append((setup, rule, other))
    return cases


def can_show(setup, rule, seen):
    """Whether a rule can show chairs, by sets of states."""
    crowd = {FIRST}
    for sight in seen:
        beats = [plain_beat(setup, rule, state, comers) for state in crowd for comers in plain_comers(setup)]
        crowd = {after for chair, after in beats if chair[:2] == sight}
    return bool(crowd)


def is_within(setup, rule, other, pairs):
    """Whether pairs show that all that is seen can be seen by the other rule, by the words of the document."""
    right = (FIRST, (FIRST,)) in pairs
    coming = plain_comers(setup)
    for state, others in pairs:
        right = right and len(others) > 0 and list(others) == sorted(others)
        for comers in coming if right else ():
            chair, after = plain_beat(setup, rule, state, comers)
            beats = [plain_beat(setup, other, mate, more) for mate in others for more in coming]
            crowd = {mate for mate_chair, mate in beats if mate_chair[:2] == chair[:2]}
            right = right and any(led == after and set(mates) <= crowd for led, mates in pairs)
    return right


class TestSeenWithin(unittest.TestCase):
    def test_told_by_hand(self):
        setup = ((1,), (1,), (1, 1), (0, 1))
        alone = (always("single"),)
        waits = (0, (), 1, 0)
        # Where nobody comes a chair goes empty, too.
        self.assertEqual(seen_within(setup, (), alone), ("within", [(FIRST, (FIRST,)), (waits, (FIRST,))]))
        self.assertEqual(seen_within(setup, alone, ()), ("not", [((("single", 1),), 0)]))
        self.assertEqual(seen_within(setup, (), ()), (
            "within",
            [(FIRST, (FIRST,)), (FIRST, (FIRST, waits)), (waits, (FIRST, waits))],
        ))

    def test_a_list_of_more_than_one_chair(self):
        # The second single sits by the one rule only.
        setup = ((1,), (1,), (1, 1), (0, 1))
        once = ((0, (0, 9), (0, 9), (1, 9), "single", 1),)
        sits = ((("single", 1),), 0)
        self.assertEqual(seen_within(setup, (always("single"),), once), ("not", [sits, sits]))
        self.assertEqual(seen_within(setup, once, (always("single"),))[0], "within")

    def test_a_rule_and_itself(self):
        for setup, rule, _ in small_cases(391, 30):
            pairs, _ = plain_within(setup, rule, rule)
            if len(pairs) <= 600:
                kind, found = seen_within(setup, rule, rule)
                self.assertEqual(kind, "within")
                self.assertTrue(all(state in others for state, others in found))

    def test_against_sets_of_states(self):
        kinds = []
        for setup, rule, other in small_cases(392, 300):
            pairs, short = plain_within(setup, rule, other)
            answer = seen_within(setup, rule, other)
            kinds.append(answer[0])
            self.assertIs(type(answer), tuple)
            if short is None:
                wanted = sorted((state, tuple(sorted(crowd))) for state, crowd in pairs)
                self.assertEqual(answer, ("within", wanted), (setup, rule, other))
            else:
                kind, seen = answer
                self.assertEqual((kind, len(seen)), ("not", short), (setup, rule, other))
                self.assertIs(type(seen), list)
                self.assertTrue(can_show(setup, rule, seen))
                self.assertFalse(can_show(setup, other, seen))
        self.assertGreater(kinds.count("within"), 40)
        self.assertGreater(kinds.count("not"), 20)

    def test_against_all_short_rows(self):
        for setup, rule, other in small_cases(393, 30):
            beats = 3 if len(plain_comers(setup)) < 7 else 2
            shown, others = set(rows_by_seen(setup, rule, beats)), set(rows_by_seen(setup, other, beats))
            kind, answer = seen_within(setup, rule, other)
            self.assertEqual(shown <= others, kind == "within" or len(answer) > beats)

    def test_around_six_hundred_pairs(self):
        for many, kind, setup, (rule, other) in WITHIN:
            pairs, short = plain_within(setup, rule, other)
            self.assertEqual(len(pairs), many)
            self.assertEqual(kind, "within" if short is None else "not")
            if many <= 600:
                answer = seen_within(setup, rule, other)
                self.assertEqual(answer[0], kind)
                self.assertIs(within_holds(setup, rule, other, answer), True)
                self.assertIs(within_holds(setup, rule, other, None), False)
            else:
                with self.assertRaises(TooMany):
                    seen_within(setup, rule, other)
                for answer in (None, ("not", []), ("not", [((), 3)]), ("within", [])):
                    with self.assertRaises(TooMany):
                        within_holds(setup, rule, other, answer)

    def test_numbers_at_their_bounds(self):
        setup = ((5, 4), (1, 3, 5), (3, 4), (2, 2))
        parts = (always("part"), always("group"), always("single"))
        self.assertEqual(seen_within(setup, parts, ())[0], "not")
        kind, pairs = seen_within(setup, (), parts)
        self.assertEqual(kind, "within")
        self.assertEqual({len(others) for _, others in pairs}, {1})
        self.assertIs(within_holds(setup, (), parts, (kind, pairs)), True)
        with self.assertRaises(TooMany):
            seen_within(setup, parts, parts)


class TestWithinHolds(unittest.TestCase):
    RULE = (always("single", 0, 1), always("group", 1, 0))
    OTHER = (always("single", 0, 2), always("group", 2, 0))

    def holds(self, answer, rule=RULE, other=OTHER, setup=SETUP):
        found = within_holds(setup, rule, other, answer)
        self.assertIs(type(found), bool)
        return found

    def setUp(self):
        kind, self.pairs = seen_within(SETUP, self.RULE, self.OTHER)
        self.assertEqual(kind, "within")

    def test_the_answers_of_seen_within(self):
        for setup, rule, other in small_cases(394, 100):
            self.assertTrue(self.holds(seen_within(setup, rule, other), rule, other, setup))

    def test_any_order_and_duplicates(self):
        self.assertGreater(len(self.pairs), 20)
        self.assertTrue(self.holds(("within", self.pairs[::-1])))
        self.assertTrue(self.holds(("within", self.pairs * 2)))

    def test_a_pair_left_out(self):
        answers = set()
        for at in range(len(self.pairs)):
            pairs = self.pairs[:at] + self.pairs[at + 1 :]
            answers.add(is_within(SETUP, self.RULE, self.OTHER, pairs))
            self.assertEqual(
                self.holds(("within", pairs)), is_within(SETUP, self.RULE, self.OTHER, pairs), self.pairs[at]
            )
        self.assertIn(False, answers)
        self.assertFalse(self.holds(("within", [])))
        self.assertFalse(self.holds(("within", self.pairs[1:])))

    def test_a_state_taken_out_of_a_tuple(self):
        answers = []
        for at, (state, others) in enumerate(self.pairs):
            for place in range(len(others)):
                pairs = list(self.pairs)
                pairs[at] = (state, others[:place] + others[place + 1 :])
                answers.append(is_within(SETUP, self.RULE, self.OTHER, pairs))
                self.assertEqual(self.holds(("within", pairs)), answers[-1], pairs[at])
        self.assertIn(True, answers)
        self.assertIn(False, answers)

    def test_a_state_more_in_a_tuple(self):
        dice = random.Random(395)
        states = all_states(SETUP, self.OTHER)
        answers = []
        for at, (state, others) in enumerate(self.pairs):
            for more in dice.sample(states, 5):
                if more not in others:
                    pairs = list(self.pairs)
                    pairs[at] = (state, tuple(sorted((*others, more))))
                    answers.append(is_within(SETUP, self.RULE, self.OTHER, pairs))
                    self.assertEqual(self.holds(("within", pairs)), answers[-1], pairs[at])
        self.assertIn(False, answers)

    def test_another_order_within_a_tuple(self):
        turned = 0
        for at, (state, others) in enumerate(self.pairs):
            if len(others) > 1:
                turned += 1
                pairs = list(self.pairs)
                pairs[at] = (state, others[::-1])
                self.assertFalse(self.holds(("within", pairs)))
                self.assertFalse(self.holds(("within", self.pairs + [pairs[at]])))
        self.assertGreater(turned, 5)

    def test_a_state_twice_in_a_tuple(self):
        # It is ascending still, and has no states but those that it may have.
        for at, (state, others) in enumerate(self.pairs):
            for place in range(len(others)):
                pairs = list(self.pairs)
                pairs[at] = (state, others[: place + 1] + others[place:])
                self.assertTrue(self.holds(("within", pairs + self.pairs[:1])))

    def test_an_empty_tuple(self):
        for at, (state, _) in enumerate(self.pairs):
            self.assertFalse(self.holds(("within", self.pairs + [(state, ())])))
            self.assertFalse(self.holds(("within", self.pairs[:at] + [(state, ())] + self.pairs[at + 1 :])))

    def test_tuples_of_one_state_are_enough(self):
        # With equal rules each state has itself for its only mate.
        for setup, rule, _ in small_cases(396, 30):
            pairs = [(state, (state,)) for state in all_states(setup, rule)]
            self.assertTrue(self.holds(("within", pairs), rule, rule, setup))
            self.assertFalse(self.holds(("within", pairs[1:]), rule, rule, setup))

    def test_changed_by_dice(self):
        dice = random.Random(397)
        answers = []
        for setup, rule, other in small_cases(398, 60):
            kind, pairs = seen_within(setup, rule, other)
            if kind == "within" and len(pairs) < 60:
                for _ in range(4):
                    changed = []
                    for state, others in pairs:
                        if dice.random() > 0.02:
                            kept = tuple(mate for mate in others if dice.random() > 0.1) or others
                            changed.append((state, kept if dice.random() < 0.3 else others))
                    answers.append(is_within(setup, rule, other, changed))
                    self.assertEqual(self.holds(("within", changed), rule, other, setup), answers[-1])
        self.assertGreater(answers.count(True), 5)
        self.assertGreater(answers.count(False), 5)

    def test_lists_of_chairs(self):
        dice = random.Random(399)
        answers = []
        for setup, rule, other in small_cases(400, 80):
            for beats in (0, 1, 2, 3, 8):
                chairs, _ = plain_chairs(setup, dice.choice((rule, rule, other)), some_row(dice, setup, beats))
                seen = list(seen_of(chairs))
                answers.append((can_show(setup, rule, seen), can_show(setup, other, seen)))
                self.assertEqual(self.holds(("not", seen), rule, other, setup), answers[-1] == (True, False))
        self.assertEqual(set(answers), {(True, True), (True, False), (False, True)})

    def test_longer_lists_of_chairs(self):
        setup = ((1,), (1,), (1, 1), (0, 1))
        once = ((0, (0, 9), (0, 9), (1, 9), "single", 1),)
        rule, sits, empty = (always("single"),), ((("single", 1),), 0), ((), 1)
        self.assertTrue(self.holds(("not", [sits, sits]), rule, once, setup))
        self.assertTrue(self.holds(("not", [sits, sits, empty]), rule, once, setup))
        self.assertFalse(self.holds(("not", [sits]), rule, once, setup))
        self.assertFalse(self.holds(("not", []), rule, once, setup))
        for many in (28, 29, 30, 31, 300, 400):
            self.assertTrue(self.holds(("not", [empty] * many + [sits] * 2), rule, once, setup))
            self.assertFalse(self.holds(("not", [empty] * many + [sits]), rule, once, setup))
        # Nobody can see this by the first rule, either.
        self.assertFalse(self.holds(("not", [((), 0)]), rule, once, setup))
        self.assertFalse(self.holds(("not", [sits, ((), 0)]), rule, once, setup))

    def test_wrong_lists_of_chairs(self):
        setup = ((1,), (1,), (1, 1), (0, 1))
        once = ((0, (0, 9), (0, 9), (1, 9), "single", 1),)
        rule, sits = (always("single"),), ((("single", 1),), 0)
        for wrong in (
            *NO_TUPLES,
            ((("single", True),), 0),
            ((("single", 1),), False),
            ([("single", 1)], 0),
            ((("single", 1),), 0, 0),
            [(("single", 1),), 0],
            ((["single", 1],), 0),
        ):
            self.assertFalse(self.holds(("not", [sits, wrong]), rule, once, setup), wrong)
            self.assertFalse(self.holds(("not", [sits, sits, wrong]), rule, once, setup), wrong)
        for wrong in (*NO_LISTS, (sits, sits)):
            self.assertFalse(self.holds(("not", wrong), rule, once, setup), wrong)

    def test_wrong_pairs(self):
        state, others = self.pairs[-1]
        wrong = [
            *NO_TUPLES,
            (),
            (state,),
            (state, others, others),
            [state, others],
            (state, list(others)),
            (list(state), others),
            (state, state),
            (others, state),
            (state, (None,)),
            (state, (*others, None)),
            (state, (list(others[0]),)),
            (state, None),
            (state, (*others, (0, (6,), 1, 2))),
            (state, (*others, (1, (), 0, 0))),
            (state, ((0, (), 0, 3),)),
            (state, ((0, (), 2, 0),)),
            (state, ((0, (1, 1, 1), 0, 0),)),
            ((0, (), 0, 3), others),
            ((False, *state[1:]), others),
            (state, ((False, *others[0][1:]),)),
            (state, {mate: True for mate in others}),
        ]
        for pair in wrong:
            self.assertFalse(self.holds(("within", self.pairs + [pair])), pair)
            self.assertFalse(self.holds(("within", self.pairs[:-1] + [pair])), pair)

    def test_any_object(self):
        for answer in (
            *NO_LISTS,
            *NO_TUPLES,
            ("within",),
            ("within", self.pairs, 0),
            ["within", self.pairs],
            ("within", tuple(self.pairs)),
            ("within", dict(self.pairs)),
            ("Within", self.pairs),
            (b"within", self.pairs),
            (None, self.pairs),
            ("not", self.pairs),
            ("same", self.pairs),
            (self.pairs, "within"),
        ):
            self.assertFalse(self.holds(answer), answer)
        for rest in NO_LISTS:
            self.assertFalse(self.holds(("within", rest)))
            self.assertFalse(self.holds(("not", rest)))


if __name__ == "__main__":
    unittest.main()
