"""The example of point 38, and what else the package tells of it."""

import unittest

from fillchairs.ahead import best_order, best_rules, foes_of, least_lost, regret
from fillchairs.back import row_back, seen_within, sizes_back, within_holds
from fillchairs.beats import chairs_of, lost_by, parted_by, state_after, turned_away
from fillchairs.best import best_mean
from fillchairs.compared import gap_paper, greatest_gap, rules_alike
from fillchairs.desk import Desk
from fillchairs.live import Lift
from fillchairs.means import greatest_mean, mean_paper, mean_ring, paper_holds, ring_holds
from fillchairs.more import one_more
from fillchairs.setups import is_rule, is_setup
from fillchairs.texts import read_rule, read_setup, show_rule, show_setup
from fillchairs.waits import greatest_wait, wait_paper, wait_row

SETUP = ((2,), (1, 2), (2, 2), (2, 1))
RULE = ((0, (1, 2), (0, 9), (0, 9), "group", 0), (0, (0, 9), (0, 9), (1, 9), "single", 0))
FIRST = ((("group", 1),), 1, 1, (0, 0))
SECOND = ((("group", 2),), 0, 0, (0, 0))
ROW = [((1, 2), 0), ((1,), 0), ((2,), 0)]


class TestExample(unittest.TestCase):
    def test_setup_and_rule(self):
        self.assertTrue(is_setup(SETUP))
        self.assertTrue(is_rule(RULE))

    def test_the_first_beat(self):
        self.assertEqual(chairs_of(SETUP, RULE, ROW[:1]), [FIRST])
        self.assertEqual(state_after(SETUP, RULE, ROW[:1]), (0, (2,), 0, 0))
        self.assertEqual(lost_by(SETUP, RULE, ROW[:1]), 1)

    def test_the_next_beats(self):
        self.assertEqual(chairs_of(SETUP, RULE, ROW), [FIRST, SECOND, FIRST])
        self.assertEqual(state_after(SETUP, RULE, ROW[:2]), (0, (1,), 0, 0))
        self.assertEqual(state_after(SETUP, RULE, ROW), (0, (2,), 0, 0))
        self.assertEqual(parted_by(SETUP, RULE, ROW), 0)

    def test_the_mean(self):
        self.assertEqual(greatest_mean(SETUP, RULE), (1, 2))
        self.assertTrue(ring_holds(SETUP, RULE, 1, 2, mean_ring(SETUP, RULE)))
        self.assertTrue(ring_holds(SETUP, RULE, 1, 2, (ROW[:1], ROW[1:])))
        self.assertTrue(paper_holds(SETUP, RULE, 1, 2, mean_paper(SETUP, RULE)))
        self.assertEqual(best_mean(SETUP), (1, 2))

    def test_waits(self):
        self.assertIsNone(greatest_wait(SETUP, RULE, "single"))
        self.assertEqual(len(wait_row(SETUP, RULE, "single")), 3)
        self.assertIsNone(wait_paper(SETUP, RULE, "single"))
        self.assertEqual(greatest_wait(SETUP, RULE, "group"), 1)

    def test_live(self):
        lift = Lift(SETUP, RULE)
        self.assertEqual(lift.beat((1, 2), 0), FIRST)
        self.assertEqual(lift.waiting, (1, 0))
        self.assertEqual(lift.play(ROW[1:]), [SECOND, FIRST])
        self.assertEqual(lift.lost(), 2)
        self.assertEqual([lift.waits("group", number) for number in range(4)], [0, 1, 1, None])

    def test_at_the_desk(self):
        desk = Desk()
        rows = {
            "setup seats 2 sizes 1 2 rooms 2 2 comers 2 1": "ok",
            "rule 0 1-2 0-9 0-9 group 0; 0 0-9 0-9 1-9 single 0": "ok",
            "beat 12+0": "g1 empty 1 lost 1 away 0 0",
            "line": "2 + 0",
            "beat 1+0": "g2 empty 0 lost 0 away 0 0",
            "beat 2+0": "g1 empty 1 lost 1 away 0 0",
            "lost": "2",
            "mean": "1/2",
            "wait single": "ever",
            "wait group": "1",
            "away": str(len(turned_away(SETUP, RULE))),
            "more": "never",
            "least": "2",
        }
        for row, answer in rows.items():
            self.assertEqual(desk.say(row), answer, row)
        self.assertEqual(read_setup(show_setup(SETUP)), SETUP)
        self.assertEqual(read_rule(show_rule(RULE)), RULE)

    def test_what_else_is_told(self):
        self.assertEqual(one_more(SETUP, RULE)[0], "never")
        self.assertEqual(rules_alike(SETUP, RULE, RULE)[0], "same")
        self.assertEqual(greatest_gap(SETUP, RULE, RULE), 0)
        self.assertIsNone(greatest_gap(SETUP, (), RULE))
        self.assertIs(type(gap_paper(SETUP, (), RULE)), tuple)
        # Without singles to fill up with nobody loses less.
        self.assertEqual(least_lost(SETUP, ROW), 2)
        self.assertEqual(least_lost(SETUP, ROW, parts=1), 0)
        self.assertEqual(regret(SETUP, RULE, ROW), 0)
        self.assertEqual(best_rules(SETUP, [RULE, ()]), (1, 2, [0]))
        self.assertIsNone(foes_of(SETUP, [RULE, ()])[0])
        self.assertEqual(best_order(SETUP, RULE[::-1]), (1, 2, [RULE]))
        seen = [chair[:2] for chair in (FIRST, SECOND, FIRST)]
        self.assertEqual(chairs_of(SETUP, RULE, row_back(SETUP, RULE, seen))[:2], [FIRST, SECOND])
        self.assertIn((1, 2, 1, 2), sizes_back(SETUP, RULE, seen))
        self.assertTrue(within_holds(SETUP, RULE, RULE, seen_within(SETUP, RULE, RULE)))


if __name__ == "__main__":
    unittest.main()
