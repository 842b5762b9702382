import copy
import random
import unittest

from fillchairs.beats import all_states, chairs_of, state_after
from fillchairs.errors import BadWalk
from fillchairs.standings import moves_of, standing_of, walk_row
from tests.plain import EXAMPLE_RULE, EXAMPLE_SETUP, Plain, always, plain_comers, some_cases, some_rule, some_setup
from tests.plain_long import plain_standing
from tests.wrong import NO_INTEGERS, NO_LISTS, NO_TUPLES

FIRST = (0, 0, 0, 0, 0)

SETUP = ((3, 2), (1, 2, 4), (3, 2), (2, 1))
RULE = (always("single", 0, 1), always("group"), always("part", 1, 2), always("group", 2, 0))


def walk_of(setup, rule, row):
    """The lost seats and the standings of a row, by the plain beats."""
    plain = Plain(setup, rule)
    walk = []
    for comers in row:
        _, _, lost, _ = plain.beat(comers)
        walk.append((lost, plain_standing(plain.state())))
    return walk


def some_walk(dice, setup, rule, beats):
    """A walk drawn move by move, so that the sizes behind are told only as they come to the front."""
    walk = []
    standing = FIRST
    known = {}
    for _ in range(beats):
        if standing not in known:
            known[standing] = moves_of(setup, rule, standing)
        lost, standing = dice.choice(known[standing])
        walk.append((lost, standing))
    return walk


class TestWalkRow(unittest.TestCase):
    def right(self, setup, rule, walk):
        kept = copy.deepcopy(walk)
        row = walk_row(setup, rule, walk)
        self.assertEqual(walk, kept)
        self.assertIs(type(row), list)
        coming = plain_comers(setup)
        for comers in row:
            self.assertIn(comers, coming)
        self.assertEqual(walk_of(setup, rule, row), walk, (setup, rule))

    def test_no_beat(self):
        self.assertEqual(walk_row(SETUP, RULE, []), [])
        self.assertEqual(walk_row(SETUP, (), []), [])

    def test_the_example(self):
        walk = [(1, (0, 2, 0, 0, 0)), (0, (0, 1, 0, 0, 0)), (1, (0, 2, 0, 0, 0))]
        row = walk_row(EXAMPLE_SETUP, EXAMPLE_RULE, walk)
        self.assertEqual(row, [((1, 2), 0), ((1,), 0), ((2,), 0)])

    def test_sizes_that_are_told_late(self):
        # Three groups come, and only as one after the other comes to the front is it seen how large they are.
        setup = ((2,), (2, 3, 5), (3, 0), (2, 0))
        rule = (always("part"), always("group"))
        for second in (2, 3, 5):
            for third in (2, 3, 5):
                row = [((5, second), 0), ((third,), 0), ((), 0)] + [((), 0)] * 6
                self.right(setup, rule, walk_of(setup, rule, row))

    def test_rows_turned_into_walks_and_back(self):
        for setup, rule, row in some_cases(61, 120, 30):
            for beats in (1, 2, 9, 30):
                self.right(setup, rule, walk_of(setup, rule, row[:beats]))

    def test_walks_drawn_move_by_move(self):
        dice = random.Random(62)
        for _ in range(100):
            setup, rule = some_setup(dice), some_rule(dice)
            self.right(setup, rule, some_walk(dice, setup, rule, 25))
        for _ in range(100):
            self.right(SETUP, RULE, some_walk(dice, SETUP, RULE, 25))

    def test_each_move_of_each_standing_can_be_walked(self):
        setup = ((2,), (1, 3), (2, 1), (1, 1))
        rule = (always("part"), always("group"), always("single"))
        rows = {}
        for state in all_states(setup, rule):
            rows.setdefault(standing_of(setup, state), None)
        walks = {FIRST: []}
        last = [FIRST]
        while last:
            standing = last.pop(0)
            for move in moves_of(setup, rule, standing):
                walk = [*walks[standing], move]
                self.right(setup, rule, walk)
                if move[1] not in walks:
                    walks[move[1]] = walk
                    last.append(move[1])
        self.assertEqual(sorted(walks), sorted(rows))

    def test_three_hundred_moves(self):
        dice = random.Random(63)
        for setup, rule in ((SETUP, RULE), (EXAMPLE_SETUP, EXAMPLE_RULE), (SETUP, ())):
            self.right(setup, rule, some_walk(dice, setup, rule, 300))
            self.right(setup, rule, some_walk(dice, setup, rule, 299))

    def test_the_row_goes_with_the_other_functions(self):
        dice = random.Random(64)
        walk = some_walk(dice, SETUP, RULE, 40)
        row = walk_row(SETUP, RULE, walk)
        self.assertEqual([chair[2] for chair in chairs_of(SETUP, RULE, row)], [lost for lost, _ in walk])
        for beats in range(1, 41):
            self.assertEqual(standing_of(SETUP, state_after(SETUP, RULE, row[:beats])), walk[beats - 1][1])


class TestBadWalk(unittest.TestCase):
    def setUp(self):
        self.walk = some_walk(random.Random(65), SETUP, RULE, 20)

    def bad(self, walk, place, setup=SETUP, rule=RULE):
        with self.subTest(repr(walk)[:200]):
            with self.assertRaises(BadWalk) as caught:
                walk_row(setup, rule, walk)
            self.assertEqual(caught.exception.place, place)
            self.assertIs(type(caught.exception.place), int)

    def with_entry(self, place, entry):
        return self.walk[:place] + [entry] + self.walk[place + 1 :]

    def test_no_list(self):
        for walk in NO_LISTS:
            self.bad(walk, -1)
        self.bad(tuple(self.walk), -1)

    def test_wrong_entries_at_the_start_in_the_middle_and_at_the_end(self):
        for place in (0, 1, 9, 19):
            lost, standing = self.walk[place]
            wrong = [
                *NO_TUPLES,
                (),
                (lost,),
                (standing,),
                (lost, standing, 0),
                [lost, standing],
                (standing, lost),
                (lost, list(standing)),
                (lost, standing[:4]),
                (lost, (*standing, 0)),
                (lost, None),
                (lost, standing[:1] + (6,) + standing[2:]),
                (lost, (2,) + standing[1:]),
                (lost + 7, standing),
                (-1, standing),
                (10**59, standing),
                (lost, standing[:4] + (10**59,)),
                standing,
            ]
            wrong += [(lost, standing[:at] + (other,) + standing[at + 1 :]) for at in range(5) for other in NO_INTEGERS]
            wrong += [(other, standing) for other in NO_INTEGERS]
            for entry in wrong:
                self.bad(self.with_entry(place, entry), place)

    def test_truths_that_equal_the_right_integers(self):
        setup = ((2,), (1, 3), (1, 0), (1, 0))
        walk = [(0, FIRST)]
        self.assertEqual(walk_row(setup, (), walk), [((), 0)])
        self.bad([(False, (0, 0, 0, 0, 0))], 0, setup, ())
        for at in range(5):
            standing = (0,) * at + (False,) + (0,) * (4 - at)
            self.bad([(0, standing)], 0, setup, ())
        walk = [(1, (0, 2, 0, 0, 0))]
        self.assertEqual(len(walk_row(EXAMPLE_SETUP, EXAMPLE_RULE, walk)), 1)
        self.bad([(True, (0, 2, 0, 0, 0))], 0, EXAMPLE_SETUP, EXAMPLE_RULE)

    def test_moves_of_another_standing(self):
        setup = ((2,), (2,), (2, 0), (1, 0))
        stay = (2, (0, 2, 0, 0, 0))
        more = (2, (0, 2, 1, 0, 0))
        self.assertEqual(len(walk_row(setup, (), [stay, stay, more, more])), 4)
        self.bad([more], 0, setup, ())
        self.bad([stay, more, stay], 2, setup, ())
        self.bad([stay, more, more, (0, FIRST)], 3, setup, ())
        self.bad([stay, (0, (0, 2, 0, 0, 0))], 1, setup, ())
        self.bad([(0, FIRST), stay, more], 1, setup, (always("group"),))

    def test_all_standings_and_losses_that_are_no_moves(self):
        setup = ((2,), (1, 3), (2, 1), (1, 1))
        rule = (always("part"), always("single"))
        states = all_states(setup, rule)
        moves = moves_of(setup, rule, FIRST)
        for lost in range(-1, 4):
            for standing in {standing_of(setup, state) for state in states}:
                if (lost, standing) in moves:
                    walk_row(setup, rule, [(lost, standing)])
                else:
                    self.bad([(lost, standing)], 0, setup, rule)

    def test_the_first_of_several(self):
        walk = self.with_entry(5, None)
        self.bad(walk[:11] + [None] + walk[12:], 5)
        self.bad([None] * 4, 0)

    def test_more_than_three_hundred(self):
        walk = [(0, FIRST)] * 301
        setup = ((2,), (1,), (1, 0), (0, 0))
        self.assertEqual(walk_row(setup, (), walk[:300]), [((), 0)] * 300)
        self.bad(walk, 300, setup, ())
        self.bad(walk * 4, 300, setup, ())
        self.bad(walk[:300] + [None], 300, setup, ())
        self.bad(walk[:299] + [None], 299, setup, ())
        self.bad(walk[:299] + [None] + walk, 299, setup, ())
        self.bad([None] + walk, 0, setup, ())

    def test_the_walk_stays_as_it_was(self):
        walk = self.with_entry(7, None)
        kept = copy.deepcopy(walk)
        self.bad(walk, 7)
        self.assertEqual(walk, kept)


if __name__ == "__main__":
    unittest.main()
