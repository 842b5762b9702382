import random
import unittest

from fillchairs.ahead import least_lost
from fillchairs.beats import turned_away
from fillchairs.desk import Desk
from fillchairs.errors import BadCommand, BadText, BadWho, ChairError, NothingToUndo, TooMany
from fillchairs.means import greatest_mean
from fillchairs.more import one_more
from fillchairs.texts import show_chair, show_row, show_rule, show_setup
from fillchairs.waits import greatest_wait
from tests.edges import MORE
from tests.plain import Plain, busy_rule, some_row, some_setup
from tests.test_texts import plain_rule_place, plain_setup_place
from tests.wrong import NO_TUPLES

FIRST_SETUP = ((2,), (1, 2), (2, 2), (1, 1))
GROUPS_FIRST = "rule 0 0-9 0-9 0-9 group 0; 0 0-9 0-9 0-9 single 0"
LOOKS = ("show", "line", "lost", "mean", "wait group", "wait single", "away", "least", "more")


def told(desk, *rows):
    """The answers of a desk to some rows."""
    return [desk.say(row) for row in rows]


def looks(desk):
    """All that a desk tells of itself, errors by their kinds."""
    answers = []
    for row in LOOKS:
        try:
            answers.append(desk.say(row))
        except ChairError as error:
            answers.append(type(error))
    return answers


class TestAnswers(unittest.TestCase):
    def test_a_new_desk(self):
        self.assertEqual(told(Desk(), *LOOKS), [
            "seats 2 sizes 1 2 rooms 2 2 comers 1 1 | -",
            "nobody + 0",
            "0",
            "2/1",
            "ever",
            "ever",
            "3",
            "0",
            "never",
        ])

    def test_beats(self):
        desk = Desk()
        self.assertEqual(told(desk, GROUPS_FIRST, "beat 2+1", "line", "lost", "beat 1+0", "line", "beat -+1", "line"), [
            "ok",
            "g2 empty 0 lost 0 away 0 0",
            "nobody + 1",
            "0",
            "g1 s empty 0 lost 0 away 0 0",
            "nobody + 0",
            "s empty 1 lost 0 away 0 0",
            "nobody + 0",
        ])
        self.assertEqual(told(desk, "rule -", "beat 2+1", "beat 1+1", "line", "lost", "beat 2+1", "line", "lost"), [
            "ok",
            "- empty 2 lost 2 away 0 0",
            "- empty 2 lost 2 away 0 0",
            "2 1 + 2",
            "4",
            "- empty 2 lost 2 away 1 1",
            "2 1 + 2",
            "6",
        ])

    def test_undo(self):
        desk = Desk()
        told(desk, GROUPS_FIRST, "beat 2+1", "beat 2+1", "rule -", "beat 1+0")
        self.assertEqual(told(desk, "lost", "undo", "lost", "undo", "show", "undo", "line", "undo", "undo", "show"), [
            "2",
            "ok",
            "0",
            "ok",
            "seats 2 sizes 1 2 rooms 2 2 comers 1 1 | 0 0-9 0-9 0-9 group 0; 0 0-9 0-9 0-9 single 0",
            "ok",
            "nobody + 1",
            "ok",
            "ok",
            "seats 2 sizes 1 2 rooms 2 2 comers 1 1 | -",
        ])
        with self.assertRaises(NothingToUndo):
            desk.say("undo")

    def test_another_setup_has_nothing_to_undo(self):
        desk = Desk()
        told(desk, GROUPS_FIRST, "beat 2+1")
        self.assertEqual(desk.say("setup seats 3 1 sizes 4 rooms 1 0 comers 2 2"), "ok")
        self.assertEqual(told(desk, "show", "line", "lost"), [
            "seats 3 1 sizes 4 rooms 1 0 comers 2 2 | -",
            "nobody + 0",
            "0",
        ])
        with self.assertRaises(NothingToUndo):
            desk.say("undo")

    def test_against_the_functions(self):
        dice = random.Random(431)
        seen = set()
        for _ in range(60):
            setup, rule = some_setup(dice), busy_rule(dice)
            desk = Desk()
            self.assertEqual(desk.say("setup " + show_setup(setup)), "ok")
            self.assertEqual(desk.say("rule " + show_rule(rule)), "ok")
            row = some_row(dice, setup, dice.randint(0, 16))
            plain = Plain(setup, rule)
            lost = 0
            for comers in row:
                deeds, empty, more, away = plain.beat(comers)
                lost += more
                self.assertEqual(desk.say("beat " + show_row([comers])), show_chair((deeds, empty, more, away)))
                line = " ".join(str(size) for size in plain.line) or "nobody"
                self.assertEqual(told(desk, "line", "lost"), [f"{line} + {plain.singles}", str(lost)])
            self.assertEqual(desk.say("show"), f"{show_setup(setup)} | {show_rule(rule)}")
            self.assertEqual(desk.say("mean"), "/".join(str(number) for number in greatest_mean(setup, rule)))
            self.assertEqual(desk.say("least"), str(least_lost(setup, row)))
            for who in ("group", "single"):
                wait = greatest_wait(setup, rule, who)
                self.assertEqual(desk.say("wait " + who), "ever" if wait is None else str(wait))
            away = turned_away(setup, rule)
            self.assertEqual(desk.say("away"), "nobody" if away is None else str(len(away)))
            try:
                kind, more = one_more(setup, rule)[:2]
                self.assertEqual(desk.say("more"), "never" if kind == "never" else str(len(more)))
                seen.add(kind)
            except TooMany:
                with self.assertRaises(TooMany):
                    desk.say("more")
            seen |= {wait is None, away is None}
        self.assertEqual(seen, {"never", "row", True, False})

    def test_least_parts_nobody(self):
        desk = Desk()
        told(desk, "setup seats 2 sizes 3 rooms 1 0 comers 1 0", "rule 0 0-9 0-9 0-9 part 0; 0 0-9 0-9 0-9 group 0")
        self.assertEqual(told(desk, "beat 3+0", "lost", "least"), ["p2 empty 0 lost 0 away 0 0", "0", "2"])

    def test_least_with_sixteen_and_seventeen_beats(self):
        desk = Desk()
        for _ in range(16):
            desk.say("beat 1+1")
        self.assertEqual(desk.say("least"), "0")
        desk.say("beat -+0")
        before = desk.say("show"), desk.say("line"), desk.say("lost")
        for _ in range(2):
            with self.assertRaises(TooMany):
                desk.say("least")
        self.assertEqual((desk.say("show"), desk.say("line"), desk.say("lost")), before)
        desk.say("undo")
        self.assertEqual(desk.say("least"), "0")
        # What is no beat does not count.
        for _ in range(3):
            desk.say("rule -")
        self.assertEqual(desk.say("least"), "0")

    def test_more_with_too_many_pairs(self):
        for many, kind, setup, rule in MORE:
            desk = Desk()
            told(desk, "setup " + show_setup(setup), "rule " + show_rule(rule))
            if many > 600:
                with self.assertRaises(TooMany):
                    desk.say("more")
            elif kind == "never":
                self.assertEqual(desk.say("more"), "never")
            else:
                self.assertEqual(desk.say("more"), str(len(one_more(setup, rule)[1])))

    def test_more_and_away(self):
        desk = Desk()
        told(desk, "setup seats 2 sizes 2 rooms 1 1 comers 1 1", "rule 0 0-9 0-9 0-9 single 0; 0 0-9 0-9 0-9 group 0")
        self.assertEqual(told(desk, "more", "away"), ["1", "2"])
        desk.say("setup seats 2 sizes 2 rooms 1 1 comers 0 0")
        self.assertEqual(told(desk, "more", "away", "mean", "wait group"), ["never", "nobody", "0/1", "0"])

    def test_many_beats(self):
        desk = Desk()
        desk.say(GROUPS_FIRST)
        for _ in range(400):
            desk.say("beat 2+1")
        self.assertEqual(told(desk, "line", "lost"), ["nobody + 2", "0"])
        for _ in range(401):
            desk.say("undo")
        with self.assertRaises(NothingToUndo):
            desk.say("undo")

    def test_two_desks_side_by_side(self):
        desk, other = Desk(), Desk()
        told(desk, GROUPS_FIRST, "beat 2+1")
        self.assertEqual(told(other, "show", "line", "lost"), [
            "seats 2 sizes 1 2 rooms 2 2 comers 1 1 | -",
            "nobody + 0",
            "0",
        ])
        other.say("beat 2+1")
        self.assertEqual(told(desk, "line", "lost"), ["nobody + 1", "0"])
        self.assertEqual(told(other, "line", "lost"), ["2 + 1", "2"])
        desk.say("setup seats 5 sizes 5 rooms 1 0 comers 1 0")
        self.assertEqual(other.say("line"), "2 + 1")

    def test_by_name(self):
        self.assertEqual(Desk().say(row="lost"), "0")


class TestErrors(unittest.TestCase):
    def setUp(self):
        self.desk = Desk()
        told(self.desk, GROUPS_FIRST, "beat 2+1", "beat 2+1")
        self.before = looks(self.desk)

    def fails(self, error, row, place=None):
        with self.assertRaises(error, msg=row) as caught:
            self.desk.say(row)
        self.assertIs(type(caught.exception), error)
        if place is not None:
            self.assertEqual(caught.exception.place, place, row)
        self.assertEqual(looks(self.desk), self.before)

    def test_what_is_no_row(self):
        for row in (*[thing for thing in NO_TUPLES if thing not in ("", "ab")], (), ("lost",), ["lost"], b"lost"):
            self.fails(BadCommand, row)

    def test_rows_of_no_form(self):
        for row in (
            "",
            " ",
            "\n",
            "x",
            "ab",
            "help",
            "Lost",
            "LOST",
            "lost\n",
            "\nlost",
            "setup",
            "rule",
            "beat",
            "wait",
            "setups -",
            "setup\n-",
            "rule\n-",
            "rules -",
            "beats 1+0",
            "beat\n1+0",
            "beat ",
            "wait ",
            "beat  ",
            "beat  1+0",
            "beat 1+0 ",
            "beat 1+0 1+0",
            "beat 1+0 x",
            "wait  group",
            "wait group ",
            "wait group single",
            " beat 1+0",
            " setup seats 2 sizes 1 2 rooms 2 2 comers 1 1",
            " rule -",
            "-",
            "1+0",
        ):
            self.fails(BadCommand, row)
        for word in ("undo", "line", "mean", "away", "least", "lost", "more", "show"):
            for row in (word + " ", " " + word, word + "  ", word + " x", word + " " + word, word + "\n", word[:-1]):
                self.fails(BadCommand, row)
            self.fails(BadCommand, word + word)

    def test_texts_of_setups(self):
        right = "seats 2 sizes 1 2 rooms 2 2 comers 1 1"
        for text in ("", " ", "x", "-", " " + right, right + " ", right[:-2], right.replace("2", "6"), right + "\n"):
            self.fails(BadText, "setup " + text, plain_setup_place(text))
        self.fails(BadText, "setup ", 0)
        self.fails(BadText, "setup  " + right, 0)
        self.fails(BadText, "setup " + right + " ", 11)
        self.fails(BadText, "setup seats 2 sizes 2 1 rooms 2 2 comers 1 1", 4)

    def test_texts_of_rules(self):
        right = "0 1-2 0-9 0-9 group 0; 0 0-9 0-9 1-9 single 0"
        for text in ("", " ", "x", "- ", " -", " " + right, right + " ", right[:-2], right + ";", right[:9], right * 2):
            self.fails(BadText, "rule " + text, plain_rule_place(text))
        self.fails(BadText, "rule ", 0)
        self.fails(BadText, "rule  -", 0)
        self.fails(BadText, "rule - ", 1)
        self.fails(BadText, "rule " + right + ";", 12)

    def test_comers(self):
        for word in ("x", "1", "+", "-", "+1", "-+", "3+0", "11+0", "1+2", "1+1+1", "-1+0", "1+0\n", "\n", "1+0;"):
            self.fails(BadText, "beat " + word, 0)

    def test_who(self):
        for word in ("x", "groups", "Group", "singles", "group\n", "\n", "0", "part", "group;", "-", "wait"):
            self.fails(BadWho, "wait " + word)

    def test_undo_with_nothing_done(self):
        for _ in range(3):
            self.desk.say("undo")
        self.before = looks(self.desk)
        for _ in range(2):
            self.fails(NothingToUndo, "undo")
        # An error is nothing that can be undone.
        self.fails(BadText, "rule x", 0)
        self.fails(BadText, "beat x", 0)
        self.fails(NothingToUndo, "undo")
        self.fails(BadCommand, "undo ")


if __name__ == "__main__":
    unittest.main()
