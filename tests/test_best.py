import random
import unittest
from fractions import Fraction
from math import gcd

from fillchairs.best import best_mean, filler_holds, filler_paper, foe_holds, foe_paper
from fillchairs.errors import TooMany
from fillchairs.means import greatest_mean
from tests.plain import EXAMPLE_RULE, EXAMPLE_SETUP, always, some_rule, some_setup
from tests.plain_long import best_by_trying, is_filler_paper, is_foe_paper, plain_choices, plain_openings, plain_views

# With 300 views, with just below, with just above, and with many more.
THREE_HUNDRED = ((5, 3), (2, 4, 5), (3, 2), (1, 2))
JUST_BELOW = ((4, 2), (1, 3), (3, 4), (2, 1))
JUST_ABOVE = ((3, 3), (1, 2, 5), (3, 3), (2, 2))
MANY_MORE = ((5, 5), (3, 4, 5), (3, 4), (2, 2))


def some_small_setup(dice, most):
    """A setup by dice with at most so many views."""
    while True:
        setup = some_setup(dice)
        if len(plain_views(setup)) <= most:
            return setup


class TestBestMean(unittest.TestCase):
    def test_sizes_of_one_alone(self):
        for seats in ((1,), (2,), (5,), (1, 2), (3, 3)):
            self.assertEqual(best_mean((seats, (1,), (2, 2), (2, 2))), (0, 1))

    def test_sizes_all_greater_than_the_chairs(self):
        self.assertEqual(best_mean(((3,), (4, 5), (2, 2), (1, 1))), (3, 1))
        self.assertEqual(best_mean(((2,), (5,), (1, 0), (1, 0))), (2, 1))
        self.assertEqual(best_mean(((2, 3), (4,), (1, 1), (1, 2))), (5, 2))
        self.assertEqual(best_mean(((1, 3), (4,), (2, 1), (2, 1))), (2, 1))

    def test_no_comers(self):
        self.assertEqual(best_mean(((3,), (1, 2), (2, 2), (0, 0))), (0, 1))
        self.assertEqual(best_mean(((1, 4), (5,), (1, 0), (0, 0))), (0, 1))
        self.assertEqual(best_mean(((3,), (1, 2), (2, 0), (0, 2))), (0, 1))

    def test_singles_alone(self):
        self.assertEqual(best_mean(((3,), (5,), (1, 4), (0, 2))), (0, 1))

    def test_the_example(self):
        # Nobody who lets groups sit in their order does better against ones and twos.
        self.assertEqual(best_mean(EXAMPLE_SETUP), (1, 2))

    def test_a_group_that_fits_one_of_two_chairs(self):
        # A group of 4 waits while the chair of 2 goes, and loses nothing if it sits in the next one.
        self.assertEqual(best_mean(((2, 4), (4,), (1, 0), (1, 0))), (1, 1))
        self.assertEqual(best_by_trying(((2, 4), (4,), (1, 0), (1, 0)), 10**6), 1)

    def test_singles_that_are_kept_for_later(self):
        # With groups of 2 and chairs of 3, a single that is kept fills a seat for which nobody else is there.
        setup = ((3,), (2,), (1, 1), (1, 1))
        self.assertEqual(Fraction(*best_mean(setup)), best_by_trying(setup, 10**6))

    def test_against_a_plain_search(self):
        dice = random.Random(111)
        tried = positive = 0
        while tried < 60 or positive < 15:
            setup = some_small_setup(dice, 30)
            found = best_by_trying(setup, 5000)
            if found is not None:
                tried += 1
                positive += found > 0
                self.assertEqual(Fraction(*best_mean(setup)), found, setup)

    def test_never_above_a_rule_without_part(self):
        dice = random.Random(112)
        equal = 0
        for _ in range(80):
            setup = some_small_setup(dice, 200)
            best = Fraction(*best_mean(setup))
            for _ in range(3):
                rule = tuple(row for row in some_rule(dice) if row[4] != "part")
                self.assertLessEqual(best, Fraction(*greatest_mean(setup, rule)), (setup, rule))
            greedy = Fraction(*greatest_mean(setup, (always("group"), always("single"))))
            self.assertLessEqual(best, greedy)
            equal += best == greedy
        self.assertGreater(equal, 10)
        self.assertEqual(greatest_mean(EXAMPLE_SETUP, EXAMPLE_RULE), best_mean(EXAMPLE_SETUP))

    def test_lowest_terms_and_kinds(self):
        dice = random.Random(113)
        for _ in range(60):
            mean = best_mean(some_small_setup(dice, 200))
            above, below = mean
            self.assertEqual((type(mean), type(above), type(below)), (tuple, int, int))
            self.assertEqual(gcd(above, below), 1)
            self.assertGreaterEqual(above, 0)
            self.assertGreaterEqual(below, 1)


class TestTooMany(unittest.TestCase):
    def test_how_many_there_are(self):
        self.assertEqual(len(plain_views(THREE_HUNDRED)), 300)
        self.assertEqual(len(plain_views(JUST_BELOW)), 280)
        self.assertEqual(len(plain_views(JUST_ABOVE)), 320)
        self.assertEqual(len(plain_views(MANY_MORE)), 600)

    def calls(self, setup):
        return (
            lambda: best_mean(setup),
            lambda: filler_paper(setup),
            lambda: foe_paper(setup),
            lambda: filler_holds(setup, 1, 2, []),
            lambda: foe_holds(setup, 1, 2, []),
            lambda: filler_holds(setup, 1, 2, None),
            lambda: foe_holds(setup, 1, 2, None),
        )

    def test_three_hundred_and_fewer(self):
        for setup in (THREE_HUNDRED, JUST_BELOW):
            for call in self.calls(setup):
                call()

    def test_more(self):
        for setup in (JUST_ABOVE, MANY_MORE):
            for call in self.calls(setup):
                with self.assertRaises(TooMany):
                    call()

    def test_views_count_to_which_no_comers_lead(self):
        for setup in (JUST_ABOVE, MANY_MORE):
            for coming in ((0, 0), (1, 0), (0, 1)):
                for call in self.calls((*setup[:3], coming)):
                    with self.assertRaises(TooMany):
                        call()
        for coming in ((0, 0), (1, 0), (0, 1)):
            for call in self.calls((*THREE_HUNDRED[:3], coming)):
                call()

    def test_all_setups_with_about_three_hundred_views(self):
        dice = random.Random(114)
        tried = 0
        while tried < 40:
            setup = (*some_setup(dice)[:3], (1, 1))
            many = len(plain_views(setup))
            if 270 <= many <= 340:
                tried += 1
                for judge in (filler_holds, foe_holds):
                    if many > 300:
                        with self.assertRaises(TooMany):
                            judge(setup, 0, 1, [])
                    else:
                        self.assertIs(judge(setup, 0, 1, []), False)


class TestPapers(unittest.TestCase):
    def right(self, setup):
        above, below = best_mean(setup)
        filler = filler_paper(setup)
        self.assertIs(type(filler), list)
        self.assertEqual([view for view, _, _ in filler], sorted({view for view, _, _ in filler}))
        for entry in filler:
            self.assertEqual([type(part) for part in entry], [tuple, str, int])
            self.assertIs(type(entry), tuple)
        self.assertTrue(is_filler_paper(setup, above, below, filler), setup)
        self.assertIs(filler_holds(setup, above, below, filler), True)
        foe = foe_paper(setup)
        self.assertIs(type(foe), list)
        self.assertEqual([view for view, _, _ in foe], sorted({view for view, _, _ in foe}))
        for entry in foe:
            self.assertEqual([type(part) for part in entry], [tuple, int, tuple])
            self.assertIs(type(entry), tuple)
        self.assertTrue(is_foe_paper(setup, above, below, foe), setup)
        self.assertIs(foe_holds(setup, above, below, foe), True)

    def test_some(self):
        self.right(EXAMPLE_SETUP)
        self.right(((1,), (1,), (1, 0), (0, 0)))
        self.right(((3,), (4, 5), (2, 2), (1, 1)))
        self.right(((2, 4), (4,), (1, 0), (1, 0)))

    def test_the_largest(self):
        self.right(THREE_HUNDRED)
        self.right(JUST_BELOW)
        self.right(((4, 3), (2, 3, 5), (3, 2), (2, 1)))
        self.right(((3, 3), (2, 3, 4), (2, 2), (2, 2)))
        self.right(((5,), (2, 3, 4), (2, 2), (2, 2)))

    def test_setups_by_dice(self):
        dice = random.Random(115)
        for _ in range(120):
            self.right(some_small_setup(dice, 150))

    def test_the_filler_is_ready_for_all_who_come_first(self):
        for setup in (EXAMPLE_SETUP, THREE_HUNDRED):
            views = {view for view, _, _ in filler_paper(setup)}
            self.assertLessEqual(plain_openings(setup, 0, [], 0), views)

    def test_answers_are_told_for_all_deeds(self):
        for view, _, answers in foe_paper(EXAMPLE_SETUP):
            self.assertEqual([deed for deed, _ in answers], list(plain_choices(EXAMPLE_SETUP, view)))


if __name__ == "__main__":
    unittest.main()
