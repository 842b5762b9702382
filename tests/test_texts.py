import itertools
import random
import unittest

from fillchairs.beats import chairs_of
from fillchairs.errors import BadRow, BadRule, BadSetup, BadText
from fillchairs.setups import is_rule, is_setup
from fillchairs.texts import read_row, read_rule, read_setup, show_chair, show_row, show_rule, show_setup
from tests.plain import EXAMPLE_RULE, EXAMPLE_SETUP, busy_rule, plain_comers, some_row, some_rule, some_setup
from tests.wrong import NO_LISTS, NO_RULES, NO_SETUPS

SETUP = ((3, 2), (1, 2, 4), (2, 4), (2, 1))
SETUP_TEXT = "seats 3 2 sizes 1 2 4 rooms 2 4 comers 2 1"
RULE_TEXT = "0 1-2 0-9 0-9 group 0; 0 0-9 0-9 1-9 single 0"
NO_TEXTS = (None, True, 0, 3, b"", b"-", (), ("-",), [], ["-"], {}, {"-": 0}, object(), str)

# Words that stand in no text, at least not behind each other.
ODD_WORDS = ("", "x", "00", "+", "-", "-1", "1-", "0-0", "9-0", "10", "1;", ";", "go", "1\n", "\n", "1+1+1", "9", "6")


def words_of(text):
    return text.split(" ")


def plain_setup_place(text):
    """The place of the first word that is not as it has to be in the text of a setup, None if all are."""
    words = words_of(text)
    place = 0

    def word():
        return words[place] if place < len(words) else None

    def digit(low, high):
        return word() in [str(number) for number in range(low, high + 1)]

    for name, most, high in (("seats", 2, 5), ("sizes", 3, 5)):
        if word() != name:
            return place
        place += 1
        low = 1
        many = 0
        while many == 0 or (many < most and word() != {"seats": "sizes", "sizes": "rooms"}[name]):
            if not digit(low, high):
                return place
            low = int(words[place]) + 1 if name == "sizes" else 1
            place += 1
            many += 1
    for name, bounds in (("rooms", ((1, 3), (0, 4))), ("comers", ((0, 2), (0, 2)))):
        if word() != name:
            return place
        place += 1
        for low, high in bounds:
            if not digit(low, high):
                return place
            place += 1
    return place if place < len(words) else None


def is_span_text(word):
    if len(word) == 1:
        return word in list("0123456789")
    return (
        len(word) == 3
        and word[1] == "-"
        and word[0] in list("0123456789")
        and word[2] in list("0123456789")
        and word[0] < word[2]
    )


def plain_rule_place(text):
    """The place of the first word that is not as it has to be in the text of a rule, None if all are."""
    words = words_of(text)
    if words[0] == "-":
        return 1 if len(words) > 1 else None
    moods = ["0", "1", "2"]
    for place in range(len(words) + 1):
        row, at = divmod(place, 6)
        if place == len(words):
            # A row has to come behind a `;`.
            return None if at == 0 and not words[-1].endswith(";") else place
        word = words[place]
        if row == 8:
            return place
        last = place == len(words) - 1
        right = (
            word in moods,
            is_span_text(word),
            is_span_text(word),
            is_span_text(word),
            word in ("group", "single", "part", "go"),
            word in [mood + ";" for mood in moods] or (last and word in moods),
        )[at]
        if not right:
            return place


def plain_row_place(setup, text):
    """The place of the first word that is not as it has to be in the text of a row, None if all are."""
    if text == "":
        return None
    known = []
    for groups, singles in plain_comers(setup):
        known.append(("".join(str(size) for size in groups) or "-") + "+" + str(singles))
    for place, word in enumerate(words_of(text)):
        if place == 300 or word not in known:
            return place
    return None


def changed_texts(dice, text, others):
    """Texts with a word exchanged, left out, put in, told twice, or cut off."""
    words = words_of(text)
    for place in range(len(words) + 1):
        for other in others:
            yield " ".join(words[:place] + [other] + words[place + 1 :])
            yield " ".join(words[:place] + [other] + words[place:])
        yield " ".join(words[:place] + words[place + 1 :])
        yield " ".join(words[:place] + words[place : place + 1] * 2 + words[place + 1 :])
        yield " ".join(words[:place])
        yield " ".join(words[:place]) + " "
        if place < len(words):
            word = words[place]
            yield " ".join(words[:place] + [word[:-1]] + words[place + 1 :])
            yield " ".join(words[:place] + [word + "\n"] + words[place + 1 :])
            yield " ".join(words[:place] + [word + ";"] + words[place + 1 :])
            yield " ".join(words[:place] + [word.upper()] + words[place + 1 :])
            yield "\n".join([" ".join(words[:place]), " ".join(words[place:])])
    yield " " + text
    yield text + " "
    yield text + "\n"
    yield "\n" + text
    yield text.replace(" ", "  ")
    yield text.replace(" ", "\n")


class Reading(unittest.TestCase):
    def refused(self, place, call, *rest):
        with self.assertRaises(BadText, msg=rest) as caught:
            call(*rest)
        self.assertEqual(caught.exception.place, place, rest)
        self.assertIs(type(caught.exception.place), int)


class TestSetups(Reading):
    def test_told_by_hand(self):
        self.assertEqual(show_setup(SETUP), SETUP_TEXT)
        self.assertEqual(show_setup(EXAMPLE_SETUP), "seats 2 sizes 1 2 rooms 2 2 comers 2 1")
        self.assertEqual(read_setup(SETUP_TEXT), SETUP)
        self.assertEqual(read_setup("seats 5 sizes 5 rooms 1 0 comers 0 0"), ((5,), (5,), (1, 0), (0, 0)))

    def test_all_setups(self):
        seats = [(one,) for one in range(1, 6)] + list(itertools.product(range(1, 6), repeat=2))
        sizes = [some for many in (1, 2, 3) for some in itertools.combinations(range(1, 6), many)]
        rooms = list(itertools.product(range(1, 4), range(5)))
        comers = list(itertools.product(range(3), repeat=2))
        for at in range(max(map(len, (seats, sizes, rooms, comers))) * 30):
            parts = zip((seats, sizes, rooms, comers), (1, 3, 7, 11))
            setup = tuple(some[at * step % len(some)] for some, step in parts)
            self.assertTrue(is_setup(setup))
            self.assertEqual(read_setup(show_setup(setup)), setup)

    def test_no_texts(self):
        for wrong in NO_TEXTS:
            self.refused(0, read_setup, wrong)

    def test_places_by_hand(self):
        for text, place in (
            ("", 0),
            (" ", 0),
            ("seats", 1),
            ("seats ", 1),
            ("seats sizes 1 rooms 1 0 comers 0 0", 1),
            ("seats 0 sizes 1 rooms 1 0 comers 0 0", 1),
            ("seats 6 sizes 1 rooms 1 0 comers 0 0", 1),
            ("seats 1", 2),
            ("seats 1 6 sizes 1 rooms 1 0 comers 0 0", 2),
            ("seats 1 0 sizes 1 rooms 1 0 comers 0 0", 2),
            ("seats 1 1 1 sizes 1 rooms 1 0 comers 0 0", 3),
            ("seats 1 sizes rooms 1 0 comers 0 0", 3),
            ("seats 1 sizes 2 2 rooms 1 0 comers 0 0", 4),
            ("seats 1 sizes 2 1 rooms 1 0 comers 0 0", 4),
            ("seats 1 sizes 1 2 3 4 rooms 1 0 comers 0 0", 6),
            ("seats 1 sizes 5 6 rooms 1 0 comers 0 0", 4),
            ("seats 1 sizes 5 rooms 0 0 comers 0 0", 5),
            ("seats 1 sizes 5 rooms 4 0 comers 0 0", 5),
            ("seats 1 sizes 5 rooms 1 5 comers 0 0", 6),
            ("seats 1 sizes 5 rooms 1 comers 0 0", 6),
            ("seats 1 sizes 5 rooms 1 4 comers 3 0", 8),
            ("seats 1 sizes 5 rooms 1 4 comers 2 3", 9),
            ("seats 1 sizes 5 rooms 1 4 comers 2", 9),
            ("seats 1 sizes 5 rooms 1 4 comers 2 2 ", 10),
            ("seats 1 sizes 5 rooms 1 4 comers 2 2 2", 10),
            ("seats 1 sizes 5 rooms 1 4 comers 2 2\n", 9),
            (" seats 1 sizes 5 rooms 1 4 comers 2 2", 0),
            ("seats  1 sizes 5 rooms 1 4 comers 2 2", 1),
            ("seats 01 sizes 5 rooms 1 4 comers 2 2", 1),
            ("Seats 1 sizes 5 rooms 1 4 comers 2 2", 0),
        ):
            self.refused(place, read_setup, text)

    def test_changed_texts(self):
        dice = random.Random(421)
        right = 0
        for setup in (SETUP, EXAMPLE_SETUP, ((5,), (5,), (1, 0), (0, 0)), *[some_setup(dice) for _ in range(6)]):
            for text in changed_texts(dice, show_setup(setup), (*ODD_WORDS, "sizes", "rooms", "comers", "2", "3", "5")):
                place = plain_setup_place(text)
                if place is None:
                    right += 1
                    self.assertEqual(show_setup(read_setup(text)), text)
                else:
                    self.refused(place, read_setup, text)
        self.assertGreater(right, 5)

    def test_bad_setups(self):
        for wrong in NO_SETUPS:
            with self.assertRaises(BadSetup):
                show_setup(wrong)


class TestRules(Reading):
    def test_told_by_hand(self):
        self.assertEqual(show_rule(EXAMPLE_RULE), RULE_TEXT)
        self.assertEqual(read_rule(RULE_TEXT), EXAMPLE_RULE)
        self.assertEqual(show_rule(()), "-")
        self.assertEqual(read_rule("-"), ())
        self.assertEqual(show_rule(((2, (3, 3), (0, 0), (4, 9), "part", 1),)), "2 3 0 4-9 part 1")
        self.assertEqual(read_rule("2 3 0 4-9 go 1"), ((2, (3, 3), (0, 0), (4, 9), "go", 1),))

    def test_all_kinds_of_rules(self):
        dice = random.Random(422)
        for _ in range(300):
            rule = dice.choice((some_rule, busy_rule))(dice)
            self.assertEqual(read_rule(show_rule(rule)), rule)
        for low in range(10):
            for high in range(low, 10):
                rule = ((0, (low, high), (0, high), (low, 9), "go", 2),)
                self.assertTrue(is_rule(rule))
                self.assertEqual(read_rule(show_rule(rule)), rule)

    def test_no_texts(self):
        for wrong in NO_TEXTS:
            self.refused(0, read_rule, wrong)

    def test_places_by_hand(self):
        row = "0 0 9 0 go 0"
        for text, place in (
            ("", 0),
            (" ", 0),
            ("- ", 1),
            (" -", 0),
            ("- -", 1),
            ("- " + row, 1),
            ("-;", 0),
            ("--", 0),
            ("0", 1),
            ("3 0 9 0 go 0", 0),
            ("0 1-1 9 0 go 0", 1),
            ("0 2-1 9 0 go 0", 1),
            ("0 0 10 0 go 0", 2),
            ("0 0-10 9 0 go 0", 1),
            ("0 0 9-10 0 go 0", 2),
            ("0 0 9 0-9- go 0", 3),
            ("0 0 9 0 go 3; " + row, 5),
            ("0 0 9 - go 0", 3),
            ("0 0 9 0 GO 0", 4),
            ("0 0 9 0 wait 0", 4),
            ("0 0 9 0 go 3", 5),
            ("0 0 9 0 go 0;", 6),
            ("0 0 9 0 go 0; ", 6),
            ("0 0 9 0 go ;", 5),
            ("0 0 9 0 go 0;;", 5),
            ("0 0 9 0 go 0 ;", 5),
            ("0 0 9 0 go 0 ", 5),
            ("0 0 9 0 go", 5),
            ("0 0 9 0 go; 0", 4),
            (row + " " + row, 5),
            (row + ";" + row, 5),
            (row + "; " + row + " " + row, 11),
            (row + "; " + row + "; -", 12),
            (row + "; 0 0 9 0 go", 11),
            (row + "; " + "0 0 9 0 x 0", 10),
            (row + ";  " + row, 6),
            (row + "\n", 5),
            ("; ".join([row] * 9), 48),
            ("; ".join([row] * 8) + ";", 48),
            ("; ".join([row] * 8) + "; x", 48),
            ("; ".join([row] * 8) + " " + row, 47),
            ("; ".join([row] * 8) + "; ", 48),
            ("; ".join([row] * 20), 48),
        ):
            self.refused(place, read_rule, text)
        self.assertEqual(len(read_rule("; ".join([row] * 8))), 8)

    def test_changed_texts(self):
        dice = random.Random(423)
        right = 0
        for rule in (EXAMPLE_RULE, (), *[busy_rule(dice) for _ in range(6)], *[some_rule(dice) for _ in range(6)]):
            for text in changed_texts(dice, show_rule(rule), (*ODD_WORDS, "0", "0;", "2", "2;", "0-9", "3-4", "part")):
                place = plain_rule_place(text)
                if place is None:
                    right += 1
                    self.assertEqual(show_rule(read_rule(text)), text)
                else:
                    self.refused(place, read_rule, text)
        self.assertGreater(right, 50)

    def test_long_texts(self):
        self.refused(48, read_rule, "0 0 9 0 go 0; " * 700)
        self.refused(0, read_rule, " " * 9999)
        self.refused(0, read_rule, "x" * 9999)

    def test_bad_rules(self):
        for wrong in NO_RULES:
            with self.assertRaises(BadRule):
                show_rule(wrong)


class TestRows(Reading):
    def test_told_by_hand(self):
        row = [((2, 4), 1), ((), 0), ((1,), 1)]
        self.assertEqual(show_row(row), "24+1 -+0 1+1")
        self.assertEqual(read_row(SETUP, "24+1 -+0 1+1"), row)
        self.assertEqual(show_row([]), "")
        self.assertEqual(read_row(SETUP, ""), [])

    def test_all_kinds_of_rows(self):
        dice = random.Random(424)
        for _ in range(100):
            setup = some_setup(dice)
            row = some_row(dice, setup, dice.randint(0, 40))
            self.assertEqual(read_row(setup, show_row(row)), row)
            comers = plain_comers(setup)
            self.assertEqual(read_row(setup, show_row(comers)), comers)

    def test_no_texts(self):
        for wrong in NO_TEXTS:
            self.refused(0, read_row, SETUP, wrong)

    def test_places_by_hand(self):
        for text, place in (
            (" ", 0),
            ("-", 0),
            ("+", 0),
            ("+0", 0),
            ("-+", 0),
            ("-+2", 0),
            ("-+00", 0),
            ("3+0", 0),
            ("0+0", 0),
            ("111+0", 0),
            ("1-+0", 0),
            ("-1+0", 0),
            ("1 +0", 0),
            ("1+0+0", 0),
            ("1+0\n", 0),
            ("-+0 ", 1),
            (" -+0", 0),
            ("-+0  -+0", 1),
            ("-+0\n-+0", 0),
            ("-+0 12+1 13+1", 2),
            ("-+0 12+1;", 1),
            ("-+0 5+1", 1),
        ):
            self.refused(place, read_row, SETUP, text)

    def test_of_the_told_setup(self):
        self.assertEqual(read_row(((1,), (3,), (1, 0), (2, 2)), "33+2"), [((3, 3), 2)])
        for setup in (((1,), (3,), (1, 0), (1, 2)), ((1,), (3,), (1, 0), (2, 1)), ((1,), (2, 4), (1, 0), (2, 2))):
            self.refused(0, read_row, setup, "33+2")

    def test_three_hundred_and_more_comers(self):
        text = " ".join(["12+1"] * 300)
        self.assertEqual(read_row(SETUP, text), [((1, 2), 1)] * 300)
        for more in (" 12+1", " x", " ", "  ", " 12+1" * 200):
            self.refused(300, read_row, SETUP, text + more)
        self.refused(299, read_row, SETUP, " ".join(["12+1"] * 299 + ["x"] * 2))

    def test_changed_texts(self):
        dice = random.Random(425)
        right = 0
        for _ in range(12):
            setup = some_setup(dice)
            text = show_row(some_row(dice, setup, dice.randint(0, 5)))
            for changed in changed_texts(dice, text, (*ODD_WORDS, "-+0", "1+0", "-+1", "12+0", "21+2", "5+0")):
                place = plain_row_place(setup, changed)
                if place is None:
                    right += 1
                    self.assertEqual(show_row(read_row(setup, changed)), changed)
                else:
                    self.refused(place, read_row, setup, changed)
        self.assertGreater(right, 50)

    def test_long_texts(self):
        self.refused(300, read_row, SETUP, "-+0 " * 2500)
        self.refused(0, read_row, SETUP, "1" * 9998 + "+0")

    def test_bad_setups(self):
        for wrong in NO_SETUPS:
            for text in ("", None):
                with self.assertRaises(BadSetup):
                    read_row(wrong, text)

    def test_bad_rows(self):
        for row, place in (
            *[(wrong, -1) for wrong in NO_LISTS],
            ([None], 0),
            ([((), 0), ((), 3)], 1),
            ([((), 0), ((1, 1, 1), 0)], 1),
            ([((), 0), ((6,), 0)], 1),
            ([((), 0), ((True,), 0)], 1),
            ([((), 0)] * 301, 300),
        ):
            with self.assertRaises(BadRow) as caught:
                show_row(row)
            self.assertEqual(caught.exception.place, place)
        self.assertEqual(len(show_row([((), 0)] * 300)), 300 * 4 - 1)


class TestChairs(unittest.TestCase):
    def test_told_by_hand(self):
        for chair, text in (
            (((), 0, 0, (0, 0)), "- empty 0 lost 0 away 0 0"),
            (((("group", 2),), 1, 1, (0, 0)), "g2 empty 1 lost 1 away 0 0"),
            (((("group", 2), ("single", 1), ("part", 2)), 0, 0, (1, 2)), "g2 s p2 empty 0 lost 0 away 1 2"),
            (((("single", 1), ("single", 1)), 3, 0, (2, 0)), "s s empty 3 lost 0 away 2 0"),
            (((("part", 5),), 0, 0, (0, 1)), "p5 empty 0 lost 0 away 0 1"),
        ):
            self.assertEqual(show_chair(chair), text)
            self.assertEqual(show_chair(chair=chair), text)

    def test_chairs_of_rows(self):
        letters = {"g": "group", "s": "single", "p": "part"}
        dice = random.Random(426)
        for _ in range(60):
            setup, rule = some_setup(dice), busy_rule(dice)
            for chair in chairs_of(setup, rule, some_row(dice, setup, 20)):
                # Read back, word by word.
                words = words_of(show_chair(chair))
                deeds, rest = words[:-7], words[-7:]
                self.assertEqual([rest[0], rest[2], rest[4]], ["empty", "lost", "away"])
                numbers = [int(rest[at]) for at in (1, 3, 5, 6)]
                self.assertEqual((*chair[1:3], *chair[3]), tuple(numbers))
                read = () if deeds == ["-"] else tuple((letters[word[0]], int(word[1:] or 1)) for word in deeds)
                self.assertEqual(read, chair[0])


if __name__ == "__main__":
    unittest.main()
