import random
import unittest

from fillchairs.errors import BadWho
from fillchairs.waits import greatest_wait, wait_paper, waits_fall
from tests.plain import EXAMPLE_RULE, EXAMPLE_SETUP, always, plain_comers, some_rule, some_setup
from tests.plain_long import (
    WHOS,
    every_standing,
    further_waits,
    place_graph,
    plain_beat,
    plain_graph,
    plain_standing,
    plain_states_with,
    seated,
)
from tests.wrong import NO_INTEGERS, NO_LISTS, NO_TUPLES, NO_WHOS

SETUP = ((2,), (2, 3), (3, 1), (2, 1))
RULE = (always("part"), always("group"))


def plain_steps(setup, rule, place, who):
    """The places after a place (standing, ahead) of one who still waits."""
    standing, ahead = place
    found = set()
    for state in plain_states_with(setup, standing):
        for comers in plain_comers(setup):
            chair, after = plain_beat(setup, rule, state, comers)
            if seated(chair, who) <= ahead:
                found.add((plain_standing(after), ahead - seated(chair, who)))
    return found


def plain_places(setup, rule, who):
    """The places of those who wait after the beat at which they came, and for all places in rows those after them."""
    firsts, _ = place_graph(plain_graph(setup, rule), who)
    firsts = {(plain_standing(state), ahead) for state, ahead in firsts}
    places = {}
    last = sorted(firsts)
    while last:
        place = last.pop()
        if place not in places:
            places[place] = plain_steps(setup, rule, place, who)
            last += places[place]
    return firsts, places


def is_paper(setup, rule, who, paper, firsts):
    """Whether a list of (place, number) is a wait paper, by the words of the document."""
    numbers = dict(paper)
    return len(numbers) == len(paper) and firsts <= set(numbers) and all(
        after in numbers and 0 <= numbers[after] < number
        for place, number in paper
        for after in plain_steps(setup, rule, place, who)
    )


def some_cases_of_waits(seed, many):
    """Setups, rules and kinds by dice, in which nobody waits for ever, though some wait."""
    dice = random.Random(seed)
    cases = []
    while len(cases) < many:
        setup = some_setup(dice)
        rule = tuple(row for row in some_rule(dice) if row[4] != "go")[:6] + (always("group"), always("single"))
        for who in WHOS:
            if greatest_wait(setup, rule, who):
                cases.append((setup, rule, who))
    return cases[:many]


class TestWaitPaper(unittest.TestCase):
    def test_told_by_hand(self):
        # One group of 2 sits in each chair.
        self.assertEqual(wait_paper(((2,), (2,), (3, 0), (2, 0)), (always("group"),), "group"), [
            (((0, 2, 0, 0, 0), 0), 0),
            (((0, 2, 1, 0, 0), 0), 0),
            (((0, 2, 1, 0, 0), 1), 1),
        ])
        # Of a group of 3 two sit, then the last one alone, for the next group is parted only in an empty chair.
        rule = ((0, (0, 9), (2, 2), (0, 9), "part", 0), always("group", 0, 0))
        self.assertEqual(wait_paper(((2,), (3,), (2, 0), (1, 0)), rule, "group"), [
            (((0, 1, 0, 0, 0), 0), 0),
            (((0, 1, 1, 0, 0), 0), 0),
            (((0, 1, 1, 0, 0), 1), 2),
            (((0, 3, 0, 0, 0), 0), 1),
        ])

    def test_the_example(self):
        paper = wait_paper(EXAMPLE_SETUP, EXAMPLE_RULE, "group")
        self.assertEqual([place for place, _ in paper], [
            ((0, front, 0, singles, 0), 0) for front in (1, 2) for singles in (0, 1, 2)
        ])
        self.assertEqual({number for _, number in paper}, {0})
        self.assertIsNone(wait_paper(EXAMPLE_SETUP, EXAMPLE_RULE, "single"))

    def test_nobody_waits(self):
        self.assertEqual(wait_paper(((2,), (1, 2), (2, 2), (0, 0)), (), "group"), [])
        self.assertEqual(wait_paper(((2,), (1, 2), (2, 0), (1, 2)), (), "single"), [])
        self.assertEqual(wait_paper(((2,), (1, 2), (2, 0), (1, 0)), (always("group"),), "group"), [])

    def test_somebody_waits_for_ever(self):
        for who in WHOS:
            self.assertIsNone(wait_paper(SETUP, (), who))
        self.assertIsNone(wait_paper(SETUP, RULE, "single"))

    def test_against_places_of_states(self):
        for setup, rule, who in some_cases_of_waits(101, 40):
            firsts, places = plain_places(setup, rule, who)
            paper = wait_paper(setup, rule, who)
            self.assertEqual(paper, sorted(further_waits(places).items()), (setup, rule, who))
            self.assertEqual(greatest_wait(setup, rule, who), 1 + max(number for _, number in paper))
            self.assertTrue(is_paper(setup, rule, who, paper, firsts))
            self.assertIs(waits_fall(setup, rule, who, paper), True)
            found = {(plain_standing(state), ahead) for state, ahead in place_graph(plain_graph(setup, rule), who)[1]}
            self.assertEqual(sorted(found), [place for place, _ in paper])

    def test_kinds(self):
        paper = wait_paper(SETUP, RULE, "group")
        self.assertIs(type(paper), list)
        for entry in paper:
            (standing, ahead), number = entry
            self.assertEqual((type(entry), type(entry[0]), type(standing)), (tuple, tuple, tuple))
            self.assertEqual((type(ahead), type(number)), (int, int))

    def test_none_goes_with_greatest_wait(self):
        dice = random.Random(102)
        for _ in range(100):
            setup, rule = some_setup(dice), some_rule(dice)
            for who in WHOS:
                none = greatest_wait(setup, rule, who) is None
                self.assertEqual(wait_paper(setup, rule, who) is None, none)

    def test_bad_who(self):
        for who in NO_WHOS:
            with self.assertRaises(BadWho):
                wait_paper(SETUP, RULE, who)


class TestWaitsFall(unittest.TestCase):
    def setUp(self):
        self.paper = wait_paper(SETUP, RULE, "group")
        self.firsts, self.places = plain_places(SETUP, RULE, "group")

    def falls(self, paper, setup=SETUP, rule=RULE, who="group"):
        answer = waits_fall(setup, rule, who, paper)
        self.assertIs(type(answer), bool)
        return answer

    def with_entry(self, place, entry):
        return self.paper[:place] + [entry] + self.paper[place + 1 :]

    def test_any_order(self):
        self.assertGreater(len(self.paper), 10)
        self.assertTrue(self.falls(self.paper))
        self.assertTrue(self.falls(self.paper[::-1]))
        dice = random.Random(103)
        for _ in range(10):
            dice.shuffle(self.paper)
            self.assertTrue(self.falls(self.paper))

    def test_an_empty_paper(self):
        self.assertFalse(self.falls([]))
        for who in WHOS:
            self.assertTrue(self.falls([], ((2,), (1, 2), (2, 2), (0, 0)), (), who))
        self.assertTrue(self.falls([], ((2,), (1, 2), (2, 0), (1, 2)), (), "single"))
        self.assertTrue(self.falls([], ((2,), (1, 2), (2, 0), (1, 0)), (always("group"),), "group"))

    def test_greater_numbers(self):
        for more in (1, 5, 10**59):
            self.assertTrue(self.falls([(place, number + more) for place, number in self.paper]))
        self.assertTrue(self.falls([(place, number * 3 + 1) for place, number in self.paper]))

    def test_a_number_one_less(self):
        for at, (place, number) in enumerate(self.paper):
            self.assertFalse(self.falls(self.with_entry(at, (place, number - 1))), place)
            more = [(other, other_number + 1) for other, other_number in self.paper]
            more[at] = (place, number)
            paper = dict(more)
            right = all(paper[after] < paper[other] for other in paper for after in self.places[other])
            self.assertEqual(self.falls(more), right)

    def test_a_number_one_more(self):
        answers = set()
        for at, (place, number) in enumerate(self.paper):
            paper = self.with_entry(at, (place, number + 1))
            right = is_paper(SETUP, RULE, "group", paper, self.firsts)
            self.assertEqual(self.falls(paper), right)
            answers.add(right)
        self.assertEqual(answers, {False, True})

    def test_all_numbers_the_same(self):
        self.assertFalse(self.falls([(place, 0) for place, _ in self.paper]))
        self.assertFalse(self.falls([(place, 9) for place, _ in self.paper]))

    def test_a_place_left_out(self):
        for at in range(len(self.paper)):
            self.assertFalse(self.falls(self.paper[:at] + self.paper[at + 1 :]))

    def test_a_place_left_out_to_which_only_others_lead(self):
        # It is no place of one who has just come.
        others = [at for at, (place, _) in enumerate(self.paper) if place not in self.firsts]
        self.assertNotEqual(others, [])
        for at in others:
            self.assertFalse(self.falls(self.paper[:at] + self.paper[at + 1 :]))

    def test_a_place_left_out_to_which_no_other_leads(self):
        # There is only one who has just come.
        after = {place for afters in self.places.values() for place in afters}
        others = [at for at, (place, _) in enumerate(self.paper) if place not in after]
        self.assertNotEqual(others, [])
        for at in others:
            self.assertFalse(self.falls(self.paper[:at] + self.paper[at + 1 :]))

    def test_a_place_twice(self):
        for place, number in self.paper:
            self.assertFalse(self.falls(self.paper + [(place, number)]))
            self.assertFalse(self.falls([(place, number + 1)] + self.paper))

    def test_places_that_come_in_no_row(self):
        known = dict(self.paper)
        tried = 0
        for standing in every_standing(SETUP):
            for ahead in range(standing[2] + 1 if standing[1] else 0):
                place = (standing, ahead)
                if place not in known:
                    tried += 1
                    for number in (0, 1, 4, 30):
                        paper = self.paper + [(place, number)]
                        right = all(
                            after in known and known[after] < number
                            for after in plain_steps(SETUP, RULE, place, "group")
                        )
                        self.assertEqual(self.falls(paper), right, (place, number))
        self.assertGreater(tried, 50)

    def test_places_in_no_row_that_hang_on_each_other(self):
        setup, rule = ((2,), (2,), (1, 0), (1, 0)), (always("go", 1, 2), always("go", 2, 1), always("group"))
        self.assertEqual(wait_paper(setup, rule, "group"), [])
        first, second = ((0, 2, 0, 0, 1), 0), ((0, 2, 0, 0, 2), 0)
        self.assertFalse(self.falls([(first, 1), (second, 0)], setup, rule))
        self.assertFalse(self.falls([(first, 0), (second, 1)], setup, rule))
        self.assertFalse(self.falls([(first, 0)], setup, rule))
        self.assertTrue(self.falls([((((0, 2, 0, 0, 0)), 0), 0)], setup, rule))
        self.assertTrue(self.falls([(((0, 1, 0, 0, 0), 0), 3), (((0, 2, 0, 0, 0), 0), 0)], setup, rule))

    def test_all_places_of_a_setup(self):
        setup, rule = ((2,), (2, 3), (2, 1), (1, 1)), (always("part"), always("group"), always("single"))
        places = [
            (standing, ahead)
            for standing in every_standing(setup)
            for ahead in range(standing[2] + 1 if standing[1] else 0)
            if standing[4] == 0
        ]
        afters = {place: plain_steps(setup, rule, place, "group") for place in places}
        paper = list(further_waits(afters).items())
        self.assertTrue(self.falls(paper, setup, rule))
        self.assertGreater(len(paper), len(wait_paper(setup, rule, "group")))

    def test_singles(self):
        setup, rule = ((1, 2), (1,), (1, 4), (0, 2)), (always("single"),)
        paper = wait_paper(setup, rule, "single")
        self.assertGreater(len(paper), 3)
        self.assertTrue(self.falls(paper, setup, rule, "single"))
        self.assertTrue(self.falls([], setup, rule, "group"))
        self.assertFalse(self.falls([], setup, rule, "single"))
        for at, (place, number) in enumerate(paper):
            self.assertFalse(self.falls(paper[:at] + [(place, number - 1)] + paper[at + 1 :], setup, rule, "single"))
            self.assertFalse(self.falls(paper[:at] + paper[at + 1 :], setup, rule, "single"))
        # Four singles never wait after a beat.
        standing = (1, 0, 0, 4, 0)
        for ahead in (0, 1, 2, 3):
            self.assertNotIn((standing, ahead), dict(paper))
            self.assertTrue(self.falls(paper + [((standing, ahead), 9)], setup, rule, "single"))
            self.assertEqual(self.falls(paper + [((standing, ahead), 0)], setup, rule, "single"), ahead < 2)
        for ahead in (4, 5, -1):
            self.assertFalse(self.falls(paper + [((standing, ahead), 9)], setup, rule, "single"))

    def test_a_paper_for_the_other_kind(self):
        for setup, rule, who in some_cases_of_waits(104, 20):
            other = "group" if who == "single" else "single"
            paper = wait_paper(setup, rule, who)
            firsts, _ = plain_places(setup, rule, other)
            if greatest_wait(setup, rule, other) is None:
                self.assertFalse(self.falls(paper, setup, rule, other))
                self.assertFalse(self.falls([], setup, rule, other))

    def test_no_paper_where_somebody_waits_for_ever(self):
        _, places = plain_places(SETUP, (), "group")
        for numbers in (range(len(places)), range(len(places), 0, -1)):
            self.assertFalse(self.falls(list(zip(sorted(places), numbers)), SETUP, ()))
        self.assertFalse(self.falls(self.paper, SETUP, RULE, "single"))

    def test_entries_that_are_none(self):
        place, number = self.paper[-1]
        standing, ahead = place
        wrong = [
            *NO_TUPLES,
            (),
            (place,),
            (place, number, 0),
            [place, number],
            (list(place), number),
            (number, place),
            (standing, number),
            ((standing,), number),
            ((standing, ahead, 0), number),
            ((ahead, standing), number),
            ((list(standing), ahead), number),
            ((standing[:4], ahead), number),
            ((None, ahead), number),
            ((standing, ahead + 5), number),
            ((standing, standing[2] + 1), number),
            ((standing, -1), number),
            (((0, 0, 0, 0, 0), 0), number),
            (place, -1),
            (place, -(10**59)),
            place,
        ]
        wrong += [(place, other) for other in NO_INTEGERS]
        wrong += [((standing, other), number) for other in NO_INTEGERS]
        wrong += [(other, number) for other in NO_TUPLES]
        wrong += [((other, ahead), number) for other in NO_TUPLES]
        for entry in wrong:
            self.assertFalse(self.falls(self.with_entry(len(self.paper) - 1, entry)), entry)
            self.assertFalse(self.falls(self.paper + [entry]), entry)

    def test_truths_that_equal_the_right_integers(self):
        for at, ((standing, ahead), number) in enumerate(self.paper):
            if ahead < 2:
                self.assertFalse(self.falls(self.with_entry(at, ((standing, bool(ahead)), number))))
            if number < 2:
                self.assertFalse(self.falls(self.with_entry(at, ((standing, ahead), bool(number)))))
            other = (False, *standing[1:])
            self.assertFalse(self.falls(self.with_entry(at, ((other, ahead), number))))

    def test_any_object(self):
        for setup, rule in ((SETUP, RULE), (((2,), (1, 2), (2, 2), (0, 0)), ())):
            for paper in NO_LISTS:
                self.assertFalse(self.falls(paper, setup, rule))
        self.assertFalse(self.falls(tuple(self.paper)))
        self.assertFalse(self.falls(dict(self.paper)))
        self.assertFalse(self.falls([self.paper]))

    def test_rules_by_dice(self):
        dice = random.Random(105)
        for setup, rule, who in some_cases_of_waits(106, 25):
            firsts, _ = plain_places(setup, rule, who)
            paper = wait_paper(setup, rule, who)
            for _ in range(4):
                changed = [(place, max(0, number + dice.choice((0, 0, 0, 1, -1)))) for place, number in paper]
                if dice.random() < 0.3:
                    changed.pop(dice.randrange(len(changed)))
                self.assertIs(self.falls(changed, setup, rule, who), is_paper(setup, rule, who, changed, firsts))

    def test_bad_who(self):
        for who in NO_WHOS:
            with self.assertRaises(BadWho):
                waits_fall(SETUP, RULE, who, self.paper)


if __name__ == "__main__":
    unittest.main()
