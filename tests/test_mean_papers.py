import random
import unittest

from fillchairs.beats import lost_by
from fillchairs.means import greatest_mean, mean_paper, paper_holds
from fillchairs.standings import all_standings, moves_of
from tests.plain import EXAMPLE_RULE, EXAMPLE_SETUP, always, some_row, some_rule, some_setup
from tests.plain_long import lost_edges, most_by_walks, plain_graph, plain_standing
from tests.wrong import NO_INTEGERS, NO_LISTS, NO_TUPLES

FIRST = (0, 0, 0, 0, 0)


def edges_of_standings(setup, rule):
    """For each standing after rows those after it, with the most seats that are lost on the way."""
    edges = {}
    for state, afters in lost_edges(plain_graph(setup, rule)).items():
        found = edges.setdefault(plain_standing(state), {})
        for after, lost in afters.items():
            standing = plain_standing(after)
            found[standing] = max(lost, found.get(standing, 0))
    return edges


class TestMeanPaper(unittest.TestCase):
    def test_without_comers(self):
        self.assertEqual(mean_paper(((2,), (1,), (1, 1), (0, 0)), ()), [(FIRST, 0)])
        self.assertEqual(
            mean_paper(((2, 3), (1,), (1, 1), (0, 0)), (always("go", 0, 1),)),
            [(FIRST, 0), ((0, 0, 0, 0, 1), 0), ((1, 0, 0, 0, 1), 0)],
        )

    def test_a_rule_that_never_seats_anybody(self):
        # Two seats and then four are lost, three at the mean: ahead of the greater chair it is one more.
        setup = ((2, 4), (1,), (1, 0), (1, 0))
        self.assertEqual(mean_paper(setup, ()), [
            ((0, 0, 0, 0, 0), 0),
            ((0, 1, 0, 0, 0), 0),
            ((1, 0, 0, 0, 0), 1),
            ((1, 1, 0, 0, 0), 1),
        ])

    def test_the_example(self):
        paper = mean_paper(EXAMPLE_SETUP, EXAMPLE_RULE)
        # A seat is lost if a group of 1 sits alone, but not if a single waits or a group of 2 sits first: 2 * 1 - 1.
        for standing, number in paper:
            _, front, _, singles, _ = standing
            self.assertEqual(number, 1 if front != 2 and singles == 0 else 0, standing)
        self.assertEqual([standing for standing, _ in paper], all_standings(EXAMPLE_SETUP, EXAMPLE_RULE))

    def test_numbers_are_for_lowest_terms(self):
        # The mean of two losses in four beats is told as 1 / 2.
        self.assertEqual(greatest_mean(EXAMPLE_SETUP, EXAMPLE_RULE), (1, 2))
        self.assertEqual(max(number for _, number in mean_paper(EXAMPLE_SETUP, EXAMPLE_RULE)), 1)

    def right(self, setup, rule, edges):
        paper = mean_paper(setup, rule)
        above, below = greatest_mean(setup, rule)
        self.assertIs(type(paper), list)
        self.assertEqual(paper, sorted(paper))
        self.assertEqual(paper, sorted(most_by_walks(edges, above, below).items()), (setup, rule))
        for entry in paper:
            self.assertEqual((type(entry), type(entry[1])), (tuple, int))
        self.assertIs(paper_holds(setup, rule, above, below, paper), True)

    def test_against_walks(self):
        dice = random.Random(81)
        tried = 0
        while tried < 120:
            setup, rule = some_setup(dice), some_rule(dice)
            edges = edges_of_standings(setup, rule)
            if len(edges) <= 60:
                tried += 1
                self.right(setup, rule, edges)

    def test_one_that_is_large(self):
        setup = ((2, 3), (1, 2, 3), (3, 2), (2, 1))
        rule = (always("single", 0, 1), always("group"), always("part", 1, 2), always("group", 2, 0))
        edges = edges_of_standings(setup, rule)
        self.assertGreater(len(edges), 60)
        self.right(setup, rule, edges)

    def test_no_row_loses_more_than_the_paper_tells(self):
        dice = random.Random(82)
        for _ in range(40):
            setup, rule = some_setup(dice), some_rule(dice)
            above, below = greatest_mean(setup, rule)
            numbers = dict(mean_paper(setup, rule))
            for beats in (1, 5, 40):
                lost = lost_by(setup, rule, some_row(dice, setup, beats))
                self.assertLessEqual(below * lost, above * beats + numbers[FIRST])


class TestPaperHolds(unittest.TestCase):
    def setUp(self):
        self.paper = mean_paper(EXAMPLE_SETUP, EXAMPLE_RULE)

    def holds(self, paper, above=1, below=2, setup=EXAMPLE_SETUP, rule=EXAMPLE_RULE):
        answer = paper_holds(setup, rule, above, below, paper)
        self.assertIs(type(answer), bool)
        return answer

    def with_entry(self, place, entry):
        return self.paper[:place] + [entry] + self.paper[place + 1 :]

    def test_any_order(self):
        self.assertTrue(self.holds(self.paper))
        self.assertTrue(self.holds(self.paper[::-1]))
        dice = random.Random(83)
        for _ in range(10):
            dice.shuffle(self.paper)
            self.assertTrue(self.holds(self.paper))

    def test_a_number_one_less(self):
        # All numbers that are not 0 are needed, and of the others those that stand behind a loss.
        for place, (standing, number) in enumerate(self.paper):
            paper = dict(self.with_entry(place, (standing, number - 1)))
            broken = [
                lost
                for before in paper
                for lost, after in moves_of(EXAMPLE_SETUP, EXAMPLE_RULE, before)
                if 2 * lost - 1 + paper[after] > paper[before]
            ]
            self.assertEqual(self.holds(list(paper.items())), not broken)
            if number == 1:
                self.assertTrue(broken)

    def test_a_number_one_more(self):
        answers = []
        for place, (standing, number) in enumerate(self.paper):
            paper = dict(self.with_entry(place, (standing, number + 1)))
            broken = [
                lost
                for before in paper
                for lost, after in moves_of(EXAMPLE_SETUP, EXAMPLE_RULE, before)
                if 2 * lost - 1 + paper[after] > paper[before]
            ]
            answers.append(self.holds(list(paper.items())))
            self.assertEqual(answers[-1], not broken)
        self.assertIn(False, answers)
        self.assertIn(True, answers)

    def test_all_numbers_greater_or_less_by_the_same(self):
        for more in (1, 2, 100, -1, -2, -100, 10**59, -(10**59)):
            self.assertTrue(self.holds([(standing, number + more) for standing, number in self.paper]), more)

    def test_larger_numbers_for_a_larger_fraction(self):
        for times in (2, 3, 10**58):
            paper = [(standing, number * times) for standing, number in self.paper]
            self.assertTrue(self.holds(paper, times, 2 * times))
            self.assertFalse(self.holds(self.paper, times, 2 * times))

    def test_a_fraction_that_is_greater(self):
        paper = [(standing, number * 50) for standing, number in self.paper]
        self.assertTrue(self.holds(paper, 50, 100))
        self.assertTrue(self.holds(paper, 51, 100))
        self.assertTrue(self.holds([(standing, 2 * number) for standing, number in self.paper], 2, 1))

    def test_a_fraction_that_is_less_has_no_paper(self):
        for times in range(40, 60):
            paper = [(standing, number * times) for standing, number in self.paper]
            self.assertFalse(self.holds(paper, 49, 100))
        self.assertFalse(self.holds([(standing, 0) for standing, _ in self.paper], 0, 1))

    def test_the_same_for_all_if_the_mean_is_greatest_of_all(self):
        paper = [(standing, 7) for standing, _ in self.paper]
        self.assertTrue(self.holds(paper, 1, 1))
        self.assertTrue(self.holds(paper, 10**59, 1))
        self.assertFalse(self.holds(paper, 1, 2))

    def test_an_entry_left_out(self):
        for place in range(len(self.paper)):
            self.assertFalse(self.holds(self.paper[:place] + self.paper[place + 1 :]))
        self.assertFalse(self.holds([]))

    def test_an_entry_twice(self):
        for entry in self.paper:
            self.assertFalse(self.holds(self.paper + [entry]))
            self.assertFalse(self.holds(self.paper + [(entry[0], entry[1] + 1)]))
            self.assertFalse(self.holds([(entry[0], entry[1] - 1)] + self.paper))

    def test_an_entry_of_another_standing(self):
        for standing in ((0, 1, 1, 0, 0), (0, 0, 0, 0, 1), (0, 5, 0, 0, 0)):
            self.assertNotIn(standing, all_standings(EXAMPLE_SETUP, EXAMPLE_RULE))
            self.assertFalse(self.holds(self.paper + [(standing, 1)]))
            for place in range(len(self.paper)):
                self.assertFalse(self.holds(self.with_entry(place, (standing, 1))))

    def test_entries_that_are_none(self):
        standing, number = self.paper[0]
        wrong = [
            *NO_TUPLES,
            (),
            (standing,),
            (standing, number, 0),
            [standing, number],
            (number, standing),
            (list(standing), number),
            (standing[:4], number),
            ((*standing, 0), number),
            (None, number),
            ((1, *standing[1:]), number),
            (standing[:1] + (6,) + standing[2:], number),
            standing,
        ]
        wrong += [(standing, other) for other in NO_INTEGERS]
        wrong += [(standing[:at] + (other,) + standing[at + 1 :], number) for at in range(5) for other in NO_INTEGERS]
        for entry in wrong:
            self.assertFalse(self.holds(self.with_entry(0, entry)), entry)
            self.assertFalse(self.holds(self.paper + [entry]), entry)

    def test_truths_that_equal_the_right_integers(self):
        place = [number for _, number in self.paper].index(1)
        standing, _ = self.paper[place]
        self.assertFalse(self.holds(self.with_entry(place, (standing, True))))
        for place, (standing, number) in enumerate(self.paper):
            for at in range(5):
                if standing[at] < 2:
                    other = standing[:at] + (bool(standing[at]),) + standing[at + 1 :]
                    self.assertEqual(other, standing)
                    self.assertFalse(self.holds(self.with_entry(place, (other, number))))

    def test_any_object(self):
        for paper in NO_LISTS:
            self.assertFalse(self.holds(paper))
        self.assertFalse(self.holds(tuple(self.paper)))
        self.assertFalse(self.holds(dict(self.paper)))
        self.assertFalse(self.holds([self.paper]))

    def test_numbers_of_sixty_digits(self):
        most = 10**60 - 1
        paper = [(standing, most - 1 + number) for standing, number in self.paper]
        self.assertTrue(self.holds(paper))
        place = [number for _, number in self.paper].index(1)
        standing, _ = self.paper[place]
        paper[place] = (standing, most - 1)
        self.assertFalse(self.holds(paper))

    def test_rules_by_dice(self):
        dice = random.Random(84)
        for _ in range(40):
            setup, rule = some_setup(dice), some_rule(dice)
            above, below = greatest_mean(setup, rule)
            paper = mean_paper(setup, rule)
            place = dice.randrange(len(paper))
            standing, number = paper[place]
            for more in (-1, 0, 1):
                changed = dict(paper)
                changed[standing] = number + more
                right = all(
                    below * lost - above + changed[after] <= changed[before]
                    for before in changed
                    for lost, after in moves_of(setup, rule, before)
                )
                entries = list(changed.items())
                dice.shuffle(entries)
                self.assertIs(self.holds(entries, above, below, setup, rule), right)


if __name__ == "__main__":
    unittest.main()
