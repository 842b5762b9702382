"""A desk that answers rows of text: a lift, and what the other functions tell of its setup and its rule."""

from fillchairs.ahead import MOST_AHEAD, least_lost
from fillchairs.beats import turned_away
from fillchairs.errors import BadCommand, TooMany
from fillchairs.live import Lift
from fillchairs.means import greatest_mean
from fillchairs.more import one_more
from fillchairs.texts import read_row, read_rule, read_setup, show_chair, show_rule, show_setup
from fillchairs.waits import greatest_wait

FIRST_SETUP = ((2,), (1, 2), (2, 2), (1, 1))


def answer_rule(lift, text):
    """Exchange the rule of a lift."""
    lift.change_rule(read_rule(text))
    return "ok"


def answer_beat(lift, word):
    """Let comers come and return the text of the chair."""
    groups, singles = read_row(lift.setup, word)[0]
    return show_chair(lift.beat(groups, singles))


def answer_wait(lift, who):
    """Return the greatest wait by the rule, or "ever"."""
    wait = greatest_wait(lift.setup, lift.rule(), who)
    return "ever" if wait is None else str(wait)


def answer_undo(lift):
    """Take back what was done last."""
    lift.undo()
    return "ok"


def answer_line(lift):
    """Return the sizes that wait, and the number of singles."""
    _, line, singles, _ = lift.state()
    sizes = " ".join([str(size) for size in line]) if line else "nobody"
    return f"{sizes} + {singles}"


def answer_mean(lift):
    """Return the greatest mean of the rule."""
    above, below = greatest_mean(lift.setup, lift.rule())
    return f"{above}/{below}"


def answer_away(lift):
    """Return in how many beats somebody can be turned away, or "nobody"."""
    row = turned_away(lift.setup, lift.rule())
    return "nobody" if row is None else str(len(row))


def answer_least(lift):
    """Return how few seats could have been lost so far without parting groups."""
    if len(lift) > MOST_AHEAD:
        raise TooMany("too many beats")
    return str(least_lost(lift.setup, lift.row()))


def answer_lost(lift):
    """Return how many seats have been lost."""
    return str(lift.lost())


def answer_more(lift):
    """Return in how many beats one single more can make more groups wait, or "never"."""
    answer = one_more(lift.setup, lift.rule())
    return "never" if answer[0] == "never" else str(len(answer[1]))


def answer_show(lift):
    """Return the texts of the setup and of the rule."""
    return f"{show_setup(lift.setup)} | {show_rule(lift.rule())}"


# One more word follows these words, and nothing the others.
BY_WORD = {"beat": answer_beat, "wait": answer_wait}
ALONE = {
    "undo": answer_undo,
    "line": answer_line,
    "mean": answer_mean,
    "away": answer_away,
    "least": answer_least,
    "lost": answer_lost,
    "more": answer_more,
    "show": answer_show,
}


class Desk:
    """A desk that holds a lift and answers rows with texts."""

    def __init__(self):
        self.lift = Lift(FIRST_SETUP)

    def say(self, row):
        """Do what a row says and return the answer."""
        if not isinstance(row, str):
            raise BadCommand("not a text")
        word, blank, rest = row.partition(" ")
        if word == "setup" and blank:
            self.lift = Lift(read_setup(rest))
            return "ok"
        if word == "rule" and blank:
            return answer_rule(self.lift, rest)
        if word in BY_WORD and rest and " " not in rest:
            answer = BY_WORD[word]
            return answer(self.lift, rest)
        if word in ALONE and not blank:
            tell = ALONE[word]
            return tell(self.lift)
        raise BadCommand("no row that the desk knows")
