import random
import unittest

from fillchairs.ahead import ahead_holds, ahead_paper, least_lost
from fillchairs.errors import BadNumber, BadRow
from tests.plain_ahead import ahead_cases, is_ahead_paper, plain_stages
from tests.wrong import NO_INTEGERS, NO_LISTS, NO_TUPLES

SETUP = ((3, 2), (1, 2, 4), (2, 2), (2, 1))
ROW = [((2, 2), 0), ((4, 4), 1), ((2, 4), 0), ((4, 4), 0)]
NO_NUMBERS = (*NO_INTEGERS, -1, -2, -(10**59))


class TestAheadPaper(unittest.TestCase):
    def test_told_by_hand(self):
        setup = ((2,), (3,), (1, 0), (1, 0))
        self.assertEqual(ahead_paper(setup, []), [[((), 0, 0, 0)]])
        self.assertEqual(ahead_paper(setup, [], parts=7), [[((), 0, 7, 0)]])
        self.assertEqual(ahead_paper(setup, [((3,), 0)]), [[((), 0, 0, 2)], [((3,), 0, 0, 0)]])
        self.assertEqual(ahead_paper(setup, [((3,), 0)], parts=1), [
            [((), 0, 1, 0)],
            [((1,), 0, 0, 0), ((3,), 0, 1, 0)],
        ])
        self.assertEqual(ahead_paper(setup, [((3,), 0), ((), 0)], parts=1), [
            [((), 0, 1, 0)],
            [((1,), 0, 0, 0), ((3,), 0, 1, 0)],
            [((), 0, 0, 0), ((1,), 0, 0, 0), ((3,), 0, 1, 0)],
        ])

    def test_against_deeds_of_all_kinds(self):
        for setup, row, parts in ahead_cases(361, 120, 8):
            paper = ahead_paper(setup, row, parts=parts)
            numbers = plain_stages(setup, row, parts)
            self.assertEqual(paper, [sorted((*stage, number) for stage, number in found.items()) for found in numbers])
            self.assertEqual(paper[0], [((), 0, parts, least_lost(setup, row, parts=parts))])
            self.assertEqual(len(paper), len(row) + 1)
            for entries in paper:
                self.assertEqual(entries, sorted(set(entries)))

    def test_kinds(self):
        paper = ahead_paper(SETUP, ROW, parts=1)
        self.assertIs(type(paper), list)
        for entries in paper:
            self.assertIs(type(entries), list)
            for entry in entries:
                self.assertEqual([type(part) for part in entry], [tuple, int, int, int])
                self.assertIs(type(entry), tuple)

    def test_sixteen_and_seventeen_beats(self):
        self.assertEqual(len(ahead_paper(SETUP, (ROW * 6)[:16], parts=3)), 17)
        with self.assertRaises(BadRow) as caught:
            ahead_paper(SETUP, (ROW * 6)[:17])
        self.assertEqual(caught.exception.place, 16)

    def test_bad_numbers(self):
        for parts in NO_NUMBERS:
            with self.assertRaises(BadNumber):
                ahead_paper(SETUP, ROW, parts=parts)
        with self.assertRaises(TypeError):
            ahead_paper(SETUP, ROW, 0)


class TestAheadHolds(unittest.TestCase):
    def setUp(self):
        self.paper = ahead_paper(SETUP, ROW, parts=1)
        self.least = least_lost(SETUP, ROW, parts=1)

    def holds(self, paper, most=0, parts=1, setup=SETUP, row=ROW):
        found = ahead_holds(setup, row, most, paper, parts=parts)
        self.assertIs(type(found), bool)
        return found

    def right(self, paper, most=0, parts=1):
        return is_ahead_paper(SETUP, ROW, most, paper, parts)

    def changed(self, beat, at, *entries):
        """The paper with entries in the place of one of a beat."""
        paper = [list(found) for found in self.paper]
        paper[beat][at : at + 1] = entries
        return paper

    def entries(self):
        return [(beat, at, entry) for beat, found in enumerate(self.paper) for at, entry in enumerate(found)]

    def test_the_paper(self):
        self.assertGreater(self.least, 0)
        for most in range(self.least + 1):
            self.assertTrue(self.holds(self.paper, most))
        for most in (self.least + 1, self.least + 2, 10**59):
            self.assertFalse(self.holds(self.paper, most))

    def test_papers_of_all_kinds(self):
        for setup, row, parts in ahead_cases(362, 80, 10):
            paper = ahead_paper(setup, row, parts=parts)
            least = least_lost(setup, row, parts=parts)
            self.assertTrue(self.holds(paper, least, parts, setup, row))
            self.assertFalse(self.holds(paper, least + 1, parts, setup, row))
            self.assertFalse(self.holds(paper, 0, parts + 1, setup, row))
            if parts:
                self.assertFalse(self.holds(paper, 0, parts - 1, setup, row))

    def test_parts_of_none_if_none_are_told(self):
        paper = ahead_paper(SETUP, ROW)
        self.assertEqual(paper, ahead_paper(SETUP, ROW, parts=0))
        self.assertNotEqual(paper, self.paper)
        self.assertIs(ahead_holds(SETUP, ROW, least_lost(SETUP, ROW), paper), True)
        self.assertIs(ahead_holds(SETUP, ROW, 0, self.paper), False)

    def test_any_order(self):
        dice = random.Random(363)
        for _ in range(5):
            for entries in self.paper:
                dice.shuffle(entries)
            self.assertTrue(self.holds(self.paper, self.least))

    def test_a_number_greater_or_less_by_one(self):
        answers = set()
        for beat, at, (line, singles, parts, number) in self.entries():
            for more in (1, -1):
                paper = self.changed(beat, at, (line, singles, parts, number + more))
                right = self.right(paper, self.least) and number + more >= 0
                answers.add((more, right))
                self.assertEqual(self.holds(paper, self.least), right, (beat, line, singles, parts, number + more))
        # The numbers are as great as they can be; some may be less.
        self.assertNotIn((1, True), answers)
        self.assertIn((-1, True), answers)
        self.assertIn((-1, False), answers)

    def test_lesser_numbers_show_less(self):
        paper = [[(*entry[:3], 0) for entry in entries] for entries in self.paper]
        self.assertTrue(self.holds(paper, 0))
        self.assertFalse(self.holds(paper, 1))

    def test_a_tuple_left_out_or_twice(self):
        for beat, at, (line, singles, parts, number) in self.entries():
            self.assertFalse(self.holds(self.changed(beat, at)))
            twice = [(line, singles, parts, number)] * 2
            self.assertFalse(self.holds(self.changed(beat, at, *twice)))
            other = (line, singles, parts, 0 if number else 1)
            self.assertFalse(self.holds(self.changed(beat, at, (line, singles, parts, number), other)))

    def test_tuples_to_which_no_deeds_lead(self):
        answers = []
        for beat in range(len(ROW) + 1):
            known = [entry[:3] for entry in self.paper[beat]]
            for stage in (((), 0, 0), ((5,), 0, 0), ((4, 4), 2, 0), ((3, 5), 1, 1), ((), 2, 9), ((1,), 0, 10**59)):
                for number in (0, 1, 9):
                    if stage not in known:
                        paper = [list(found) for found in self.paper]
                        paper[beat].append((*stage, number))
                        answers.append(self.right(paper, self.least))
                        self.assertEqual(self.holds(paper, self.least), answers[-1], (beat, stage, number))
        self.assertIn(True, answers)
        self.assertIn(False, answers)

    def test_the_first_list_may_hold_more(self):
        line = ((), 1, 1)
        for number in (0, 20):
            paper = [list(found) for found in self.paper]
            paper[0].append((*line, number))
            self.assertEqual(self.holds(paper, self.least), self.right(paper, self.least))
        # It is the number of the first one that counts.
        setup, row = ((2,), (1,), (1, 1), (0, 0)), []
        self.assertTrue(self.holds([[((), 0, 0, 0), ((1,), 0, 0, 0)]], 0, 0, setup, row))
        self.assertFalse(self.holds([[((), 0, 0, 0), ((1,), 0, 0, 0)]], 1, 0, setup, row))
        self.assertFalse(self.holds([[((1,), 0, 0, 0)]], 0, 0, setup, row))
        self.assertFalse(self.holds([[((), 0, 0, 1)]], 0, 0, setup, row))
        self.assertFalse(self.holds([[]], 0, 0, setup, row))
        self.assertFalse(self.holds([], 0, 0, setup, row))

    def test_a_list_more_or_fewer(self):
        self.assertFalse(self.holds(self.paper[:-1]))
        self.assertFalse(self.holds(self.paper[1:]))
        self.assertFalse(self.holds(self.paper + [[]]))
        self.assertFalse(self.holds(self.paper + self.paper[-1:]))
        self.assertFalse(self.holds(self.paper[:-1] + [[]]))
        self.assertFalse(self.holds([]))

    def test_wrong_entries(self):
        for beat in (0, 1, len(ROW)):
            line, singles, parts, number = self.paper[beat][0]
            wrong = [
                *NO_TUPLES,
                (),
                (line, singles, parts),
                (line, singles, parts, number, 0),
                ((line, singles, parts), number),
                [line, singles, parts, number],
                (list(line), singles, parts, number),
                (line, singles, parts, -1),
                (line, singles, -1, number),
                (line, -1, parts, number),
                (line, 3, parts, 0),
                ((6,), singles, parts, 0),
                ((0,), singles, parts, 0),
                ((1, 1, 1), singles, parts, 0),
                ((True,), singles, parts, 0),
                (None, singles, parts, 0),
                (0, singles, parts, 0),
                *[(line, other, parts, number) for other in NO_INTEGERS],
                *[(line, singles, other, number) for other in NO_INTEGERS],
                *[(line, singles, parts, other) for other in NO_INTEGERS],
            ]
            for entry in wrong:
                paper = [list(found) for found in self.paper]
                paper[beat].append(entry)
                self.assertFalse(self.holds(paper), entry)
                self.assertFalse(self.holds(self.changed(beat, 0, entry)), entry)

    def test_truths(self):
        for beat, at, (line, singles, parts, number) in self.entries():
            for entry in ((line, bool(singles), parts, number), (line, singles, bool(parts), number)):
                self.assertFalse(self.holds(self.changed(beat, at, entry)))

    def test_any_object(self):
        tuples = [tuple(found) for found in self.paper]
        for paper in (*NO_LISTS, tuple(self.paper), dict(enumerate(self.paper)), tuples):
            self.assertFalse(self.holds(paper))
        for entries in NO_LISTS:
            for beat in range(len(self.paper)):
                paper = list(self.paper)
                paper[beat] = entries
                self.assertFalse(self.holds(paper))

    def test_changed_by_dice(self):
        dice = random.Random(364)
        answers = []
        for setup, row, parts in ahead_cases(365, 80, 4):
            paper = ahead_paper(setup, row, parts=parts)
            for _ in range(4):
                changed = [
                    [(*entry[:3], max(0, entry[3] - dice.choice((0, 0, 0, 1, 1, 2)))) for entry in found]
                    for found in paper
                ]
                if dice.random() < 0.3:
                    entries = dice.choice(changed)
                    entries.pop(dice.randrange(len(entries)))
                answers.append(is_ahead_paper(setup, row, 0, changed, parts))
                self.assertEqual(self.holds(changed, 0, parts, setup, row), answers[-1])
        self.assertIn(True, answers)
        self.assertIn(False, answers)

    def test_bad_numbers(self):
        for wrong in NO_NUMBERS:
            for paper in (self.paper, None):
                with self.assertRaises(BadNumber):
                    ahead_holds(SETUP, ROW, wrong, paper)
                with self.assertRaises(BadNumber):
                    ahead_holds(SETUP, ROW, 0, paper, parts=wrong)
        with self.assertRaises(TypeError):
            ahead_holds(SETUP, ROW, 0, self.paper, 1)

    def test_bad_rows(self):
        for row, place in ((ROW * 6, 16), (ROW + [None], 4), (None, -1), (tuple(ROW), -1)):
            with self.assertRaises(BadRow) as caught:
                ahead_holds(SETUP, row, -1, None, parts=-1)
            self.assertEqual(caught.exception.place, place)


if __name__ == "__main__":
    unittest.main()
