import random
import unittest
from fractions import Fraction
from math import gcd

from fillchairs.beats import chairs_of, state_after
from fillchairs.means import greatest_mean, mean_ring, ring_holds
from tests.plain import EXAMPLE_RULE, EXAMPLE_SETUP, Plain, always, plain_comers, some_rule, some_setup
from tests.plain_long import FIRST, lost_edges, mean_by_rings, mean_by_walks, plain_graph
from tests.wrong import NO_LISTS, NO_TUPLES


def small_setup(dice):
    """A setup by dice with few states."""
    return (
        tuple(dice.randint(1, 3) for _ in range(dice.randint(1, 2))),
        tuple(sorted(dice.sample(range(1, 5), dice.randint(1, 2)))),
        (dice.randint(1, 2), dice.randint(0, 2)),
        (dice.randint(0, 2), dice.randint(0, 1)),
    )


def mean_of(setup, rule, ring):
    """The mean of a ring by the plain beats, None if the state does not come back."""
    plain = Plain(setup, rule)
    ahead, rest = ring
    for comers in ahead:
        plain.beat(comers)
    state = plain.state()
    lost = sum(plain.beat(comers)[2] for comers in rest)
    return Fraction(lost, len(rest)) if plain.state() == state else None


class TestGreatestMean(unittest.TestCase):
    def test_the_example(self):
        self.assertEqual(greatest_mean(EXAMPLE_SETUP, EXAMPLE_RULE), (1, 2))

    def test_rules_that_never_seat_anybody(self):
        for rule in ((), (always("go"),), (always("go", 0, 1), always("go", 1, 0)), (always("group", 1),)):
            self.assertEqual(greatest_mean(((3,), (1, 2), (2, 2), (1, 1)), rule), (3, 1))
            self.assertEqual(greatest_mean(((2, 3), (1, 2), (2, 2), (1, 1)), rule), (5, 2))
            self.assertEqual(greatest_mean(((2, 4), (1, 2), (2, 2), (0, 1)), rule), (3, 1))
            self.assertEqual(greatest_mean(((5, 5), (5,), (1, 0), (1, 0)), rule), (5, 1))

    def test_without_comers(self):
        for rule in ((), EXAMPLE_RULE, (always("go", 0, 1), always("go", 1, 2))):
            self.assertEqual(greatest_mean(((3,), (1, 2), (2, 2), (0, 0)), rule), (0, 1))
            self.assertEqual(greatest_mean(((3, 1), (1, 2), (2, 2), (0, 0)), rule), (0, 1))
        # Singles come, but there is no room for them.
        self.assertEqual(greatest_mean(((3,), (1,), (1, 0), (0, 2)), ()), (0, 1))

    def test_nothing_is_lost_if_all_deeds_are_done(self):
        setup = ((2,), (1, 2), (2, 2), (2, 2))
        self.assertEqual(greatest_mean(setup, (always("part"), always("group"), always("single"))), (0, 1))
        # Without the last row of the rule a single waits for ever and nobody else comes.
        self.assertEqual(greatest_mean(setup, (always("part"), always("group"))), (2, 1))

    def test_a_loss_that_does_not_come_again_counts_for_nothing(self):
        # Only in mood 0 nobody is seated, and it never comes back.
        rule = (always("go", 0, 1), always("group", 1, 1))
        setup = ((2,), (2,), (2, 0), (1, 0))
        self.assertEqual([chair[2] for chair in chairs_of(setup, rule, [((2,), 0)] * 3)], [2, 0, 0])
        self.assertEqual(greatest_mean(setup, rule), (0, 1))

    def test_a_loss_that_is_waited_for(self):
        # Every second chair goes empty, and somebody waits then.
        rule = (always("go", 0, 1), always("group", 1, 2), always("go", 2, 0))
        setup = ((2,), (2,), (2, 0), (1, 0))
        edges = lost_edges(plain_graph(setup, rule))
        self.assertEqual(mean_by_rings(edges), Fraction(1))
        self.assertEqual(greatest_mean(setup, rule), (1, 1))

    def test_longer_rings(self):
        moods = (
            (0, (1, 9), (0, 9), (0, 9), "group", 1),
            (1, (1, 9), (0, 9), (0, 9), "go", 2),
            (2, (1, 9), (0, 9), (0, 9), "group", 0),
        )
        setup = ((1, 2), (1, 2), (2, 0), (2, 0))
        above, below = greatest_mean(setup, moods)
        edges = lost_edges(plain_graph(setup, moods))
        self.assertEqual(Fraction(above, below), mean_by_walks(edges, FIRST))
        self.assertGreater(below, 1)

    def test_against_all_simple_rings(self):
        dice = random.Random(71)
        tried = 0
        while tried < 150:
            setup, rule = small_setup(dice), some_rule(dice)
            edges = lost_edges(plain_graph(setup, rule))
            if len(edges) <= 7:
                tried += 1
                self.assertEqual(Fraction(*greatest_mean(setup, rule)), mean_by_rings(edges), (setup, rule))

    def test_against_all_walks(self):
        dice = random.Random(72)
        tried = 0
        while tried < 120:
            setup, rule = some_setup(dice), some_rule(dice)
            edges = lost_edges(plain_graph(setup, rule))
            if 8 <= len(edges) <= 60:
                tried += 1
                self.assertEqual(Fraction(*greatest_mean(setup, rule)), mean_by_walks(edges, FIRST), (setup, rule))

    def test_lowest_terms_and_kinds(self):
        dice = random.Random(73)
        for _ in range(80):
            mean = greatest_mean(some_setup(dice), some_rule(dice))
            above, below = mean
            self.assertEqual((type(mean), type(above), type(below)), (tuple, int, int))
            self.assertEqual(gcd(above, below), 1)
            self.assertGreaterEqual(above, 0)
            self.assertGreaterEqual(below, 1)


class TestMeanRing(unittest.TestCase):
    def right(self, setup, rule):
        ring = mean_ring(setup, rule)
        self.assertEqual((type(ring), len(ring)), (tuple, 2))
        self.assertEqual([type(part) for part in ring], [list, list])
        self.assertNotEqual(ring[1], [])
        coming = plain_comers(setup)
        for comers in ring[0] + ring[1]:
            self.assertIn(comers, coming)
        above, below = greatest_mean(setup, rule)
        self.assertEqual(mean_of(setup, rule, ring), Fraction(above, below), (setup, rule))
        self.assertIs(ring_holds(setup, rule, above, below, ring), True)

    def test_some(self):
        self.right(EXAMPLE_SETUP, EXAMPLE_RULE)
        self.right(EXAMPLE_SETUP, ())
        self.right(((2, 3), (1, 2), (2, 2), (0, 0)), ())
        self.right(((2, 3), (1, 2), (2, 2), (0, 0)), (always("go", 0, 1),))

    def test_rules_by_dice(self):
        dice = random.Random(74)
        for _ in range(150):
            self.right(some_setup(dice), some_rule(dice))
        for _ in range(150):
            self.right(small_setup(dice), some_rule(dice))

    def test_groups_that_wait_while_the_round_goes_on(self):
        # The longer a group waits behind, the more rounds it takes until it is at the front.
        for rooms in (1, 2, 3):
            for coming in (1, 2):
                setup = ((2,), (1, 2), (rooms, 2), (coming, 1))
                for rule in (
                    (always("group", 0, 1), always("go", 1, 2), always("single", 2, 0)),
                    (always("group", 0, 1), always("single", 1, 0)),
                    (always("single", 0, 1), always("part", 1, 2), always("group", 2, 0)),
                    (always("part", 0, 1), always("single", 1, 0)),
                ):
                    self.right(setup, rule)

    def test_the_largest(self):
        setup = ((5, 4), (2, 4, 5), (3, 4), (2, 2))
        rule = tuple(always(deed, mood, (mood + 1) % 3) for mood in range(3) for deed in ("group", "single"))
        self.right(setup, rule)
        self.right(setup, rule[1:] + rule[:1] + (always("part", 1, 0),))


class TestRingHolds(unittest.TestCase):
    SETUP = EXAMPLE_SETUP
    RULE = EXAMPLE_RULE
    RING = ([], [((1, 2), 0), ((), 0)])

    def holds(self, above, below, ring, setup=EXAMPLE_SETUP, rule=EXAMPLE_RULE):
        answer = ring_holds(setup, rule, above, below, ring)
        self.assertIs(type(answer), bool)
        return answer

    def test_the_example(self):
        self.assertTrue(self.holds(1, 2, self.RING))
        self.assertTrue(self.holds(1, 2, ([((1, 2), 0)], [((1,), 0), ((2,), 0)])))
        self.assertTrue(self.holds(0, 1, ([], [((), 0)])))
        self.assertTrue(self.holds(0, 1, ([((1,), 0)], [((2,), 1), ((), 0)])))

    def test_fractions_not_in_lowest_terms(self):
        for times in (1, 2, 3, 50, 10**58):
            self.assertTrue(self.holds(times, 2 * times, self.RING))
        for below in (1, 2, 3, 10**59):
            self.assertTrue(self.holds(0, below, ([], [((), 0)])))

    def test_greater_and_lesser_fractions(self):
        for above, below in ((0, 1), (1, 1), (2, 1), (1, 3), (2, 3), (49, 100), (51, 100), (10**59, 2 * 10**59 + 1)):
            self.assertFalse(self.holds(above, below, self.RING))
        self.assertFalse(self.holds(1, 2, ([], [((), 0)])))

    def test_rounds_told_several_times(self):
        ahead, rest = self.RING
        for times in (1, 2, 3, 10):
            self.assertTrue(self.holds(1, 2, (ahead, rest * times)))
            self.assertTrue(self.holds(1, 2, (ahead + rest * times, rest)))

    def test_rounds_of_many_beats(self):
        ahead, rest = self.RING
        self.assertTrue(self.holds(1, 2, (ahead, rest * 151)))
        self.assertTrue(self.holds(1, 2, (rest * 400, rest * 1000)))
        self.assertFalse(self.holds(1, 2, (rest * 400, rest * 1000 + [((), 0)])))
        self.assertTrue(self.holds(1000, 2001, (rest * 400, rest * 1000 + [((), 0)])))
        self.assertFalse(self.holds(1, 2, (ahead, rest * 151 + [((1, 2), 0)])))

    def test_what_is_lost_ahead_does_not_count(self):
        ahead = [((1, 2), 0), ((1,), 0), ((2,), 0), ((), 0)]
        self.assertEqual(sum(chair[2] for chair in chairs_of(self.SETUP, self.RULE, ahead)), 2)
        self.assertTrue(self.holds(0, 1, (ahead, [((), 0)])))
        self.assertTrue(self.holds(1, 2, (ahead, self.RING[1])))

    def test_an_empty_round(self):
        for above in (0, 1):
            self.assertFalse(self.holds(above, 1, ([], [])))
            self.assertFalse(self.holds(above, 1, (self.RING[1], [])))

    def test_a_round_that_does_not_come_back(self):
        self.assertFalse(self.holds(1, 1, ([], [((1, 2), 0)])))
        self.assertFalse(self.holds(1, 2, ([((2, 2), 0)], self.RING[1][:1] * 2)))

    def test_a_standing_that_comes_back_with_another_group_behind(self):
        setup, rule = ((2,), (1, 2), (3, 0), (2, 0)), (always("group", 0, 1), always("go", 1, 0))
        ahead = [((1, 1), 0), ((1, 1), 0)]
        self.assertEqual(state_after(setup, rule, ahead), (0, (1, 1), 0, 0))
        self.assertEqual(state_after(setup, rule, ahead + [((2,), 0)]), (0, (1, 2), 0, 0))
        self.assertFalse(self.holds(1, 1, (ahead, [((2,), 0)]), setup, rule))
        self.assertTrue(self.holds(1, 1, (ahead, [((1,), 0)]), setup, rule))

    def test_a_turn_that_does_not_come_back(self):
        setup = ((2, 2), (1,), (1, 1), (1, 1))
        self.assertFalse(self.holds(0, 1, ([], [((), 0)]), setup, ()))
        self.assertTrue(self.holds(0, 1, ([], [((), 0)] * 2), setup, ()))
        self.assertTrue(self.holds(0, 1, ([((), 0)], [((), 0)] * 2), setup, ()))

    def test_a_mood_that_does_not_come_back(self):
        setup = ((2,), (1,), (1, 1), (1, 1))
        rule = (always("go", 0, 1), always("go", 1, 2), always("go", 2, 1))
        self.assertFalse(self.holds(0, 1, ([], [((), 0)]), setup, rule))
        self.assertFalse(self.holds(0, 1, ([], [((), 0)] * 2), setup, rule))
        self.assertTrue(self.holds(0, 1, ([((), 0)], [((), 0)] * 2), setup, rule))

    def test_a_line_that_is_full_and_one_that_grows(self):
        setup = ((1,), (1, 2), (3, 0), (2, 0))
        rule = (always("group"),)
        # The group of 2 in front never sits.
        ahead = [((2, 1), 0), ((2,), 0)]
        self.assertTrue(self.holds(1, 1, (ahead, [((1, 1), 0)]), setup, rule))
        self.assertFalse(self.holds(1, 1, ([((2, 1), 0)], [((1,), 0)]), setup, rule))

    def test_entries_that_are_no_comers(self):
        wrong = (
            None,
            True,
            (),
            [],
            "",
            ((), 0, 0),
            [(), 0],
            ([], 0),
            ((3,), 0),
            ((1, 1, 1), 0),
            ((True,), 0),
            ((), False),
            ((), 2),
            ((), -1),
            ((), 10**59),
        )
        for entry in wrong:
            self.assertFalse(self.holds(0, 1, ([], [entry])))
            self.assertFalse(self.holds(0, 1, ([entry], [((), 0)])))
            self.assertFalse(self.holds(0, 1, ([], [((), 0), entry])))
            self.assertFalse(self.holds(1, 2, ([], self.RING[1] + [entry])))
            self.assertFalse(self.holds(1, 2, (self.RING[1] + [entry], self.RING[1])))

    def test_any_object(self):
        for ring in (*NO_TUPLES, (), ([],), ([], [((), 0)], []), [[], [((), 0)]], ((), ()), "ab", ((), 0)):
            self.assertFalse(self.holds(0, 1, ring), ring)
        for part in NO_LISTS:
            self.assertFalse(self.holds(0, 1, ([], part)), part)
            self.assertFalse(self.holds(0, 1, (part, [((), 0)])), part)
        self.assertFalse(self.holds(0, 1, ([], (((), 0),))))
        self.assertFalse(self.holds(0, 1, ((), [((), 0)])))


if __name__ == "__main__":
    unittest.main()
