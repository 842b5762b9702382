"""Setups, rules, rows of comers and chairs as texts, and such texts read back.

Each word is read by a dict of all texts that may stand in its place, each with what it stands for.
"""

from fillchairs.beats import MOST_BEATS, check_row
from fillchairs.errors import BadText
from fillchairs.setups import DEEDS, MOST_ROWS, all_comers, check_rule, check_setup

# Its rows are those of all setups; it is none itself, for it has more sizes than setups have.
ALL_COMERS = ((1,), (1, 2, 3, 4, 5), (3, 4), (2, 2))
LETTERS = {"group": "g", "part": "p"}


def show_setup(setup):
    """Return the text of a setup."""
    check_setup(setup)
    seats, sizes, rooms, comers = setup
    parts = [("seats", seats), ("sizes", sizes), ("rooms", rooms), ("comers", comers)]
    return " ".join([f"{word} {show_numbers(numbers)}" for word, numbers in parts])


def show_rule(rule):
    """Return the text of a rule."""
    check_rule(rule)
    return "; ".join([show_rule_row(row) for row in rule]) if rule else "-"


def show_row(row):
    """Return the text of a row of comers."""
    check_row(ALL_COMERS, row)
    return " ".join([show_comers(comers) for comers in row])


def show_chair(chair):
    """Return the text of a chair."""
    deeds, empty, lost, away = chair
    done = " ".join([show_deed(deed) for deed in deeds]) if deeds else "-"
    return f"{done} empty {empty} lost {lost} away {show_numbers(away)}"


def read_setup(text):
    """Return the setup that a text writes."""
    reader = Reader(text)
    reader.take_word("seats")
    seats = read_numbers(reader, 2, False, "sizes")
    sizes = read_numbers(reader, 3, True, "rooms")
    rooms = (reader.take(digits(1, 3)), reader.take(digits(0, 4)))
    reader.take_word("comers")
    comers = (reader.take(digits(0, 2)), reader.take(digits(0, 2)))
    reader.end()
    return seats, sizes, rooms, comers


def read_rule(text):
    """Return the rule that a text writes."""
    reader = Reader(text)
    if reader.is_at("-"):
        reader.take_word("-")
        reader.end()
        return ()
    rows = []
    more = True
    while more:
        if len(rows) == MOST_ROWS:
            raise BadText(reader.at)
        row, more = read_rule_row(reader)
        rows.append(row)
    return tuple(rows)


def read_row(setup, text):
    """Return the row of comers of a setup that a text writes."""
    check_setup(setup)
    reader = Reader(text)
    if text == "":
        return []
    known = {show_comers(comers): comers for comers in all_comers(setup)}
    row = []
    while reader.has_more():
        if len(row) == MOST_BEATS:
            raise BadText(reader.at)
        row.append(reader.take(known))
    return row


class Reader:
    """The words of a text, read one after the other."""

    def __init__(self, text):
        if not isinstance(text, str):
            raise BadText(0)
        self.words = text.split(" ")
        self.at = 0

    def has_more(self):
        """Return whether a word has not been read yet."""
        return self.at < len(self.words)

    def is_at(self, word):
        """Return whether this is the word that comes."""
        return self.has_more() and self.words[self.at] == word

    def is_at_last(self):
        """Return whether the word that comes is the last one."""
        return self.at == len(self.words) - 1

    def take(self, known):
        """Read a word that is among the known ones, and return what it stands for."""
        if not self.has_more() or self.words[self.at] not in known:
            raise BadText(self.at)
        self.at += 1
        return known[self.words[self.at - 1]]

    def take_word(self, word):
        """Read this word."""
        self.take({word: None})

    def end(self):
        """Raise BadText if another word comes."""
        if self.has_more():
            raise BadText(self.at)


def show_numbers(numbers):
    """Return numbers as words."""
    return " ".join([str(number) for number in numbers])


def show_rule_row(row):
    """Return the text of a row of a rule."""
    mood, front, left, waiting, deed, after = row
    return f"{mood} {show_span(front)} {show_span(left)} {show_span(waiting)} {deed} {after}"


def show_span(span):
    """Return the text of a range."""
    low, high = span
    return str(low) if low == high else f"{low}-{high}"


def show_comers(comers):
    """Return the text of the comers of a beat."""
    groups, singles = comers
    sizes = "".join([str(size) for size in groups]) if groups else "-"
    return f"{sizes}+{singles}"


def show_deed(deed):
    """Return the text of a deed of a chair."""
    name, number = deed
    return f"{LETTERS[name]}{number}" if name in LETTERS else "s"


def digits(low, high):
    """Return a dict of the texts of all integers from low to high, which have one digit."""
    return {str(number): number for number in range(low, high + 1)}


def spans():
    """Return a dict of the texts of all ranges."""
    return {show_span((low, high)): (low, high) for low in range(10) for high in range(low, 10)}


def read_numbers(reader, most, ascending, ending):
    """Read one or more integers from 1 to 5, then the word that ends them, and return the tuple of the integers."""
    numbers = [reader.take(digits(1, 5))]
    while len(numbers) < most and not reader.is_at(ending):
        numbers.append(reader.take(digits(numbers[-1] + 1 if ascending else 1, 5)))
    reader.take_word(ending)
    return tuple(numbers)


def read_rule_row(reader):
    """Read a row of a rule, and return it and whether another one has to come."""
    mood = reader.take(digits(0, 2))
    front = reader.take(spans())
    left = reader.take(spans())
    waiting = reader.take(spans())
    deed = reader.take({name: name for name in DEEDS})
    endings = {f"{number};": (number, True) for number in range(3)}
    if reader.is_at_last():
        endings.update({str(number): (number, False) for number in range(3)})
    after, more = reader.take(endings)
    return (mood, front, left, waiting, deed, after), more
