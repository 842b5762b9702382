import random
import unittest

from fillchairs.best import best_mean, filler_holds, filler_paper, foe_holds, foe_paper
from fillchairs.errors import BadFraction, TooMany
from tests.plain import EXAMPLE_SETUP, some_setup
from tests.plain_long import is_filler_paper, is_foe_paper, plain_choices, plain_openings, plain_views
from tests.wrong import NO_FRACTIONS, NO_INTEGERS, NO_LISTS, NO_TUPLES

# Groups of 1 and 3, and singles, for a chair of 1 and one of 3 seats: the best mean is 3 / 4.
SETUP = ((1, 3), (1, 3), (2, 1), (1, 1))
DEEDS = ("group", "single", "go")
NO_DEEDS = (None, True, 0, "", "part", "Group", "GO", "go ", b"go", ("go",), ["go"], {"go": 1}, object())
TOO_MANY = ((3, 3), (1, 2, 5), (3, 3), (2, 2))


def wrong_views(setup, view):
    """Objects that are no views of the setup, though most of them are nearly one."""
    turn, front, behind, singles, left = view
    wrong = [
        *NO_TUPLES,
        (),
        list(view),
        view[:4],
        (*view, 0),
        (len(setup[0]), front, behind, singles, 0),
        (-1, front, behind, singles, left),
        (turn, 2, behind, singles, left),
        (turn, 5, behind, singles, left),
        (turn, 6, behind, singles, left),
        (turn, -1, behind, singles, left),
        (turn, 0, 1, singles, left),
        (turn, 3, setup[2][0], singles, left),
        (turn, 3, -1, singles, left),
        (turn, front, behind, setup[2][1] + 1, left),
        (turn, front, behind, -1, left),
        (turn, front, behind, singles, setup[0][turn] + 1),
        (turn, front, behind, singles, -1),
    ]
    return wrong + [view[:at] + (other,) + view[at + 1 :] for at in range(5) for other in (*NO_INTEGERS, 10**59)]


def with_truth(view):
    """A view that equals this one, with a truth in the place of an integer; None if there is none."""
    for at, part in enumerate(view):
        if part in (0, 1):
            return view[:at] + (bool(part),) + view[at + 1 :]
    return None


class Judged(unittest.TestCase):
    """What the judges of both papers have in common."""

    def setUp(self):
        self.mean = best_mean(SETUP)
        self.filler = filler_paper(SETUP)
        self.foe = foe_paper(SETUP)

    def filler_is(self, paper, above=None, below=None, setup=SETUP):
        if above is None:
            above, below = self.mean
        answer = filler_holds(setup, above, below, paper)
        self.assertIs(type(answer), bool)
        return answer

    def foe_is(self, paper, above=None, below=None, setup=SETUP):
        if above is None:
            above, below = self.mean
        answer = foe_holds(setup, above, below, paper)
        self.assertIs(type(answer), bool)
        return answer


class TestBoth(Judged):
    def test_the_setup_is_one_with_a_loss(self):
        self.assertEqual(self.mean, (3, 4))
        self.assertGreater(len(self.filler), 10)
        self.assertGreater(len(self.foe), 10)

    def test_any_order(self):
        dice = random.Random(121)
        for _ in range(10):
            self.assertTrue(self.filler_is(self.filler))
            self.assertTrue(self.foe_is(self.foe))
            dice.shuffle(self.filler)
            dice.shuffle(self.foe)
        self.assertTrue(self.filler_is(self.filler[::-1]))
        self.assertTrue(self.foe_is(self.foe[::-1]))

    def test_numbers_greater_or_less_by_the_same(self):
        for more in (1, -1, 100, -100, 10**59, -(10**59)):
            self.assertTrue(self.filler_is([(view, deed, number + more) for view, deed, number in self.filler]))
            self.assertTrue(self.foe_is([(view, number + more, answers) for view, number, answers in self.foe]))

    def test_fractions_not_in_lowest_terms(self):
        above, below = self.mean
        for times in (2, 7, 10**58):
            filler = [(view, deed, number * times) for view, deed, number in self.filler]
            foe = [(view, number * times, answers) for view, number, answers in self.foe]
            self.assertTrue(self.filler_is(filler, above * times, below * times))
            self.assertTrue(self.foe_is(foe, above * times, below * times))
            self.assertFalse(self.filler_is(self.filler, above * times, below * times))
            self.assertFalse(self.foe_is(self.foe, above * times, below * times))

    def test_fractions_a_little_greater_and_less(self):
        above, below = self.mean
        for times in (10, 1000, 10**50):
            filler = [(view, deed, number * times) for view, deed, number in self.filler]
            foe = [(view, number * times, answers) for view, number, answers in self.foe]
            self.assertTrue(self.filler_is(filler, above * times + 1, below * times))
            self.assertFalse(self.filler_is(filler, above * times - 1, below * times))
            self.assertFalse(self.foe_is(foe, above * times + 1, below * times))
            self.assertTrue(self.foe_is(foe, above * times - 1, below * times))

    def test_all_numbers_the_same(self):
        filler = [(view, deed, 3) for view, deed, _ in self.filler]
        foe = [(view, 3, answers) for view, _, answers in self.foe]
        self.assertFalse(self.filler_is(filler))
        self.assertFalse(self.foe_is(foe))
        self.assertTrue(self.filler_is(filler, 3, 1))
        self.assertTrue(self.foe_is(foe, 0, 1))

    def test_an_empty_paper(self):
        for setup in (SETUP, EXAMPLE_SETUP, ((1,), (1,), (1, 0), (0, 0))):
            for above in (0, 1, 5):
                self.assertFalse(self.filler_is([], above, 1, setup))
                self.assertFalse(self.foe_is([], above, 1, setup))

    def test_no_list(self):
        for paper in (*NO_LISTS, (), tuple(self.filler), tuple(self.foe), dict.fromkeys(self.filler)):
            self.assertFalse(self.filler_is(paper))
            self.assertFalse(self.foe_is(paper))

    def test_the_one_is_not_the_other(self):
        self.assertFalse(self.filler_is(self.foe))
        self.assertFalse(self.foe_is(self.filler))

    def test_bad_fractions(self):
        for above, below in NO_FRACTIONS:
            for paper in (self.filler, self.foe, [], None):
                for judge in (filler_holds, foe_holds):
                    with self.assertRaises(BadFraction):
                        judge(SETUP, above, below, paper)
                    with self.assertRaises(BadFraction):
                        judge(TOO_MANY, above, below, paper)

    def test_too_many_ahead_of_a_look_at_the_paper(self):
        for judge in (filler_holds, foe_holds):
            for paper in (*NO_LISTS, [], self.filler, self.foe):
                with self.assertRaises(TooMany):
                    judge(TOO_MANY, 1, 2, paper)

    def test_numbers_of_sixty_digits(self):
        most = 10**60 - 1
        greatest = max(number for _, _, number in self.filler)
        filler = [(view, deed, number - greatest + most) for view, deed, number in self.filler]
        self.assertTrue(self.filler_is(filler))
        greatest = max(number for _, number, _ in self.foe)
        foe = [(view, number - greatest + most, answers) for view, number, answers in self.foe]
        self.assertTrue(self.foe_is(foe))


class TestFillerHolds(Judged):
    def with_entry(self, place, entry):
        return self.filler[:place] + [entry] + self.filler[place + 1 :]

    def agree(self, paper):
        right = is_filler_paper(SETUP, *self.mean, paper)
        self.assertEqual(self.filler_is(paper), right, paper)
        return right

    def test_a_number_one_more_or_less(self):
        for more in (1, -1):
            answers = set()
            for at, (view, deed, number) in enumerate(self.filler):
                answers.add(self.agree(self.with_entry(at, (view, deed, number + more))))
            self.assertIn(False, answers)

    def test_another_deed(self):
        answers = []
        for at, (view, deed, number) in enumerate(self.filler):
            choices = plain_choices(SETUP, view)
            for other in DEEDS:
                if other in choices:
                    answers.append(self.agree(self.with_entry(at, (view, other, number))))
                else:
                    self.assertFalse(self.filler_is(self.with_entry(at, (view, other, number))))
        self.assertIn(False, answers)

    def test_deeds_that_cannot_be_done(self):
        # A paper with all views, by which nobody is ever seated, holds if whole chairs may be lost: 1 and 3 seats.
        paper = [(view, "go", 1 if view[0] else 0) for view in plain_views(SETUP)]
        self.assertTrue(self.filler_is(paper, 2, 1))
        for at, (view, _, number) in enumerate(paper):
            choices = plain_choices(SETUP, view)
            for deed in ("group", "single", "part"):
                changed = paper[:at] + [(view, deed, number)] + paper[at + 1 :]
                self.assertEqual(self.filler_is(changed, 2, 1), deed in choices)

    def test_an_entry_left_out(self):
        for at in range(len(self.filler)):
            self.agree(self.filler[:at] + self.filler[at + 1 :])
        openings = plain_openings(SETUP, 0, [], 0)
        for at, (view, _, _) in enumerate(self.filler):
            if view in openings:
                self.assertFalse(self.filler_is(self.filler[:at] + self.filler[at + 1 :]))

    def test_an_opening_view_left_out_to_which_nothing_else_leads(self):
        # A group of 2 stays in front of a chair of 1 for ever, so that nothing leads back to the empty line.
        setup = ((1,), (2,), (1, 0), (1, 0))
        empty, stuck = (0, 0, 0, 0, 1), (0, 2, 0, 0, 1)
        self.assertTrue(self.filler_is([(empty, "go", 0), (stuck, "go", 0)], 1, 1, setup))
        self.assertFalse(self.filler_is([(stuck, "go", 0)], 1, 1, setup))
        self.assertFalse(self.filler_is([(empty, "go", 0)], 1, 1, setup))

    def test_an_entry_twice(self):
        for view, deed, number in self.filler:
            self.assertFalse(self.filler_is(self.filler + [(view, deed, number)]))
            self.assertFalse(self.filler_is([(view, deed, number + 1)] + self.filler))

    def test_views_to_which_nothing_leads_may_stand_there(self):
        known = {view for view, _, _ in self.filler}
        added = []
        for view in plain_views(SETUP):
            if view not in known:
                paper = self.filler + [(view, "go", 1000)]
                added.append(self.agree(paper))
                self.assertFalse(self.filler_is(self.filler + [(view, "go", -1000)]))
        self.assertIn(True, added)

    def test_views_that_are_none(self):
        for at in (0, len(self.filler) - 1):
            view, deed, number = self.filler[at]
            for other in wrong_views(SETUP, view):
                self.assertFalse(self.filler_is(self.with_entry(at, (other, deed, number))), other)
                self.assertFalse(self.filler_is(self.filler + [(other, "go", 1000)]), other)

    def test_views_that_are_none_though_they_lead_only_to_each_other(self):
        setup = ((1,), (1,), (1, 0), (0, 0))
        paper = [((0, 0, 0, 0, 1), "go", 0)]
        self.assertTrue(self.filler_is(paper, 1, 1, setup))
        self.assertTrue(self.filler_is(paper + [((0, 1, 0, 0, 1), "go", 0)], 1, 1, setup))
        for front in (2, 3, 5, 9, -1):
            self.assertFalse(self.filler_is(paper + [((0, front, 0, 0, 1), "go", 0)], 1, 1, setup))
        for turn in (1, -1, 2):
            self.assertFalse(self.filler_is(paper + [((turn, 0, 0, 0, 1), "go", 9)], 1, 1, setup))
            self.assertFalse(self.filler_is(paper + [((turn, 0, 0, 0, 0), "go", 9)], 1, 1, setup))
        for singles in (1, -1):
            self.assertFalse(self.filler_is(paper + [((0, 0, 0, singles, 1), "go", 9)], 1, 1, setup))
        for behind in (1, -1):
            self.assertFalse(self.filler_is(paper + [((0, 1, behind, 0, 1), "go", 9)], 1, 1, setup))
        for left in (2, -1):
            self.assertFalse(self.filler_is(paper + [((0, 0, 0, 0, left), "go", 9)], 1, 1, setup))

    def test_truths_that_equal_the_right_integers(self):
        for at, (view, deed, number) in enumerate(self.filler):
            other = with_truth(view)
            if other is not None:
                self.assertEqual(other, view)
                self.assertFalse(self.filler_is(self.with_entry(at, (other, deed, number))))
            if number in (0, 1):
                self.assertFalse(self.filler_is(self.with_entry(at, (view, deed, bool(number)))))

    def test_entries_that_are_none(self):
        view, deed, number = self.filler[0]
        wrong = [
            *NO_TUPLES,
            (),
            (view, deed),
            (view, number),
            (view, deed, number, 0),
            (view, number, deed),
            (deed, view, number),
            [view, deed, number],
            view,
            (view, (deed,), number),
        ]
        wrong += [(view, deed, other) for other in NO_INTEGERS]
        wrong += [(view, other, number) for other in NO_DEEDS]
        for entry in wrong:
            self.assertFalse(self.filler_is(self.with_entry(0, entry)), entry)
            self.assertFalse(self.filler_is(self.filler + [entry]), entry)

    def test_any_way_to_fill(self):
        # All ways to do one deed at each view hold for a mean so great that all numbers may be the same.
        dice = random.Random(122)
        for _ in range(30):
            paper = [(view, dice.choice(list(plain_choices(SETUP, view))), 0) for view in plain_views(SETUP)]
            self.assertTrue(self.filler_is(paper, 3, 1))
            self.agree(paper)


class TestFoeHolds(Judged):
    def with_entry(self, place, entry):
        return self.foe[:place] + [entry] + self.foe[place + 1 :]

    def agree(self, paper):
        right = is_foe_paper(SETUP, *self.mean, paper)
        self.assertEqual(self.foe_is(paper), right, paper)
        return right

    def test_a_number_one_more_or_less(self):
        for more in (1, -1):
            answers = set()
            for at, (view, number, told) in enumerate(self.foe):
                answers.add(self.agree(self.with_entry(at, (view, number + more, told))))
            self.assertIn(False, answers)

    def test_other_answers(self):
        views = plain_views(SETUP)
        found = set()
        for at, (view, number, told) in list(enumerate(self.foe))[::7]:
            for place, (deed, after) in enumerate(told):
                afters, _ = plain_choices(SETUP, view)[deed]
                for other in views:
                    changed = told[:place] + ((deed, other),) + told[place + 1 :]
                    right = self.agree(self.with_entry(at, (view, number, changed)))
                    if other not in afters:
                        self.assertFalse(right)
                    found.add((right, other == after))
        self.assertEqual(found, {(True, True), (True, False), (False, False)})

    def test_an_answer_left_out_or_added_or_exchanged(self):
        several = 0
        for at, (view, number, told) in enumerate(self.foe):
            self.assertFalse(self.foe_is(self.with_entry(at, (view, number, ()))))
            self.assertFalse(self.foe_is(self.with_entry(at, (view, number, told[:-1]))))
            self.assertFalse(self.foe_is(self.with_entry(at, (view, number, told[1:]))))
            self.assertFalse(self.foe_is(self.with_entry(at, (view, number, told + told[-1:]))))
            if len(told) > 1:
                several += 1
                self.assertFalse(self.foe_is(self.with_entry(at, (view, number, told[::-1]))))
                self.assertFalse(self.foe_is(self.with_entry(at, (view, number, (told[0],) * len(told)))))
        self.assertGreater(several, 3)

    def test_answers_to_deeds_that_cannot_be_done(self):
        for at, (view, number, told) in enumerate(self.foe):
            choices = plain_choices(SETUP, view)
            answers = dict(told)
            for deed in ("group", "single"):
                if deed not in choices:
                    more = tuple((name, answers.get(name, view)) for name in DEEDS if name in choices or name == deed)
                    self.assertFalse(self.foe_is(self.with_entry(at, (view, number, more))))

    def test_an_entry_left_out(self):
        answers = set()
        for at in range(len(self.foe)):
            answers.add(self.agree(self.foe[:at] + self.foe[at + 1 :]))
        self.assertIn(False, answers)

    def test_no_opening_view_to_which_comers_lead(self):
        # Comers can be so many in a later view that none of those to which they first lead stands in the paper.
        setup = ((1,), (2,), (2, 0), (1, 0))
        stuck = (0, 2, 1, 0, 1)
        paper = [(stuck, 0, (("go", stuck),))]
        self.assertFalse(is_foe_paper(setup, 1, 1, paper))
        self.assertFalse(self.foe_is(paper, 1, 1, setup))
        first = (0, 2, 0, 0, 1)
        paper = [(first, 0, (("go", stuck),)), (stuck, 0, (("go", stuck),))]
        self.assertTrue(self.foe_is(paper, 1, 1, setup))
        other = [((0, 2, 0, 0, 0), 0, (("go", stuck),)), (stuck, 0, (("go", stuck),))]
        self.assertFalse(self.foe_is(other, 1, 1, setup))

    def test_one_opening_view_is_enough(self):
        openings = plain_openings(SETUP, 0, [], 0)
        kept = [entry for entry in self.foe if entry[0] in openings]
        self.assertGreaterEqual(len(kept), 1)
        setup = ((1,), (2,), (1, 0), (1, 0))
        stuck = (0, 2, 0, 0, 1)
        self.assertTrue(self.foe_is([(stuck, 0, (("go", stuck),))], 1, 1, setup))
        self.assertFalse(self.foe_is([(stuck, 0, (("go", stuck),))], 2, 1, setup))

    def test_an_opening_view_of_another_turn_is_not_enough(self):
        setup = ((1, 1), (2,), (1, 0), (1, 0))
        later = ((1, 2, 0, 0, 1), 0, (("go", (0, 2, 0, 0, 1)),))
        first = ((0, 2, 0, 0, 1), 0, (("go", (1, 2, 0, 0, 1)),))
        self.assertTrue(self.foe_is([first, later], 1, 1, setup))
        self.assertFalse(self.foe_is([later], 1, 1, setup))
        self.assertFalse(self.foe_is([first], 1, 1, setup))

    def test_an_entry_twice(self):
        for view, number, told in self.foe:
            self.assertFalse(self.foe_is(self.foe + [(view, number, told)]))
            self.assertFalse(self.foe_is([(view, number - 1, told)] + self.foe))

    def test_views_that_are_none(self):
        for at in (0, len(self.foe) - 1):
            view, number, told = self.foe[at]
            for other in wrong_views(SETUP, view):
                self.assertFalse(self.foe_is(self.with_entry(at, (other, number, told))), other)
                self.assertFalse(self.foe_is(self.foe + [(other, -1000, told)]), other)
                changed = told[:-1] + ((told[-1][0], other),)
                self.assertFalse(self.foe_is(self.with_entry(at, (view, number, changed))), other)

    def test_views_that_are_none_though_they_lead_only_to_each_other(self):
        setup = ((1,), (1,), (1, 0), (0, 0))
        empty = (0, 0, 0, 0, 1)
        paper = [(empty, 0, (("go", empty),))]
        self.assertTrue(self.foe_is(paper, 0, 1, setup))
        for front in (2, 3, 5, 9, -1):
            other = (0, front, 0, 0, 1)
            self.assertFalse(self.foe_is(paper + [(other, 0, (("go", other),))], 0, 1, setup))
        for turn in (1, -1, 2):
            self.assertFalse(self.foe_is(paper + [((turn, 0, 0, 0, 1), 0, (("go", empty),))], 0, 1, setup))
        for left in (2, -1):
            self.assertFalse(self.foe_is(paper + [((0, 0, 0, 0, left), 0, (("go", empty),))], 0, 1, setup))
        self.assertTrue(self.foe_is(paper + [((0, 0, 0, 0, 0), 0, (("go", empty),))], 0, 1, setup))

    def test_truths_that_equal_the_right_integers(self):
        for at, (view, number, told) in enumerate(self.foe):
            other = with_truth(view)
            if other is not None:
                self.assertFalse(self.foe_is(self.with_entry(at, (other, number, told))))
            if number in (0, 1):
                self.assertFalse(self.foe_is(self.with_entry(at, (view, bool(number), told))))
            other = with_truth(told[-1][1])
            if other is not None:
                changed = told[:-1] + ((told[-1][0], other),)
                self.assertFalse(self.foe_is(self.with_entry(at, (view, number, changed))))

    def test_entries_that_are_none(self):
        view, number, told = self.foe[0]
        wrong = [
            *NO_TUPLES,
            (),
            (view, number),
            (view, told),
            (view, number, told, 0),
            (view, told, number),
            [view, number, told],
            (view, number, list(told)),
            (view, number, dict(told)),
            (view, number, None),
            (view, number, told[0]),
            view,
        ]
        wrong += [(view, other, told) for other in NO_INTEGERS]
        wrong += [(view, number, other) for other in NO_TUPLES]
        for entry in wrong:
            self.assertFalse(self.foe_is(self.with_entry(0, entry)), entry)
            self.assertFalse(self.foe_is(self.foe + [entry]), entry)

    def test_answers_that_are_none(self):
        for at in (0, len(self.foe) - 1):
            view, number, told = self.foe[at]
            deed, after = told[-1]
            wrong = [
                *NO_TUPLES,
                (),
                (deed,),
                (deed, after, 0),
                (after, deed),
                [deed, after],
                (deed, list(after)),
                (deed, None),
                after,
            ]
            wrong += [(other, after) for other in NO_DEEDS]
            for answer in wrong:
                self.assertFalse(self.foe_is(self.with_entry(at, (view, number, told[:-1] + (answer,)))), answer)

    def test_setups_by_dice(self):
        dice = random.Random(123)
        tried = 0
        while tried < 15:
            setup = some_setup(dice)
            if len(plain_views(setup)) <= 60:
                tried += 1
                above, below = best_mean(setup)
                filler, foe = filler_paper(setup), foe_paper(setup)
                for more in (-1, 0, 1):
                    at = dice.randrange(len(filler))
                    view, deed, number = filler[at]
                    paper = filler[:at] + [(view, deed, number + more)] + filler[at + 1 :]
                    right = is_filler_paper(setup, above, below, paper)
                    self.assertEqual(self.filler_is(paper, above, below, setup), right)
                    at = dice.randrange(len(foe))
                    view, number, told = foe[at]
                    paper = foe[:at] + [(view, number + more, told)] + foe[at + 1 :]
                    right = is_foe_paper(setup, above, below, paper)
                    self.assertEqual(self.foe_is(paper, above, below, setup), right)


if __name__ == "__main__":
    unittest.main()
