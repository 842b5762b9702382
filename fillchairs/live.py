"""A live lift: comers come beat by beat, the rule may be exchanged, and all of it can be undone."""

from fillchairs.beats import FIRST_STATE, check_row, is_row, lost_together, play_beat, play_on
from fillchairs.errors import BadComers, BadNumber, BadRow, NothingToUndo
from fillchairs.setups import check_rule, check_setup, is_comers, is_number
from fillchairs.waits import wait_in

MOST_TRIED = 10
MOST_BEATS_TRIED = 20


class Lift:
    """A setup, a rule, and a row of comers that grows beat by beat."""

    def __init__(self, setup, rule=()):
        check_setup(setup)
        check_rule(rule)
        self.setup = setup
        self.first_rule = rule
        self.ruling = rule
        self.now = FIRST_STATE
        self.gone = []
        # What was done and not undone, ("beat", comers) or ("rule", rule), and (state, rule) before each of it.
        self.done = []
        self.before = []

    def beat(self, groups, singles):
        """Let the comers of a beat come and return its chair."""
        if not is_comers(self.setup, (groups, singles)):
            raise BadComers("not the comers of a beat of the setup")
        return self.let_come((groups, singles))

    def play(self, row):
        """Let all beats of a row come and return the list of their chairs."""
        check_row(self.setup, row)
        return [self.let_come(comers) for comers in row]

    def let_come(self, comers):
        """Let comers that are some of the setup come and return the chair."""
        self.note("beat", comers)
        chair, self.now = play_beat(self.setup, self.ruling, self.now, comers)
        self.gone.append(chair)
        return chair

    def change_rule(self, rule):
        """Exchange the rule for the beats that come."""
        check_rule(rule)
        self.note("rule", rule)
        self.ruling = rule

    def note(self, kind, what):
        """Note what is about to be done, so that it can be undone."""
        self.done.append((kind, what))
        self.before.append((self.now, self.ruling))

    def undo(self):
        """Take back the last beat or exchange of the rule that has not been taken back."""
        if not self.done:
            raise NothingToUndo("nothing has been done")
        kind, _ = self.done.pop()
        self.now, self.ruling = self.before.pop()
        if kind == "beat":
            self.gone.pop()

    def row(self):
        """Return the list of the comers of all beats."""
        return [comers for kind, comers in self.done if kind == "beat"]

    def chairs(self):
        """Return the list of the chairs of all beats."""
        return list(self.gone)

    def state(self):
        """Return the state after all beats."""
        return self.now

    def rule(self):
        """Return the rule for the beats that come."""
        return self.ruling

    def lost(self):
        """Return how many seats have been lost."""
        return lost_together(self.gone)

    def waits(self, who, number):
        """Return how many chairs went until a group or a single sat, None if it has not sat."""
        return wait_in(self.row(), self.gone, who, number)

    def try_rows(self, rows, *, rule=None):
        """Return the list of the places of those rows by which, from now on, the fewest seats would be lost."""
        check_rows(self.setup, rows)
        ruling = self.ruling
        if rule is not None:
            check_rule(rule)
            ruling = rule
        losses = []
        for row in rows:
            chairs, _ = play_on(self.setup, ruling, self.now, row)
            losses.append(lost_together(chairs))
        return [place for place, lost in enumerate(losses) if lost == min(losses)]

    @property
    def waiting(self):
        """How many (groups, singles) wait."""
        _, line, singles, _ = self.now
        return (len(line), singles)

    def copy(self):
        """Return another lift that is equal to this one."""
        twin = Lift(self.setup, self.first_rule)
        twin.ruling = self.ruling
        twin.now = self.now
        twin.gone = list(self.gone)
        twin.done = list(self.done)
        twin.before = list(self.before)
        return twin

    def __len__(self):
        return len(self.gone)

    def __getitem__(self, at):
        if not is_number(at, 0, len(self.gone) - 1):
            raise BadNumber("no beat has this place")
        return self.gone[at]

    def __iter__(self):
        return iter(self.gone)

    def __eq__(self, other):
        return (
            isinstance(other, Lift)
            and self.setup == other.setup
            and self.first_rule == other.first_rule
            and self.done == other.done
        )


def check_rows(setup, thing):
    """Raise BadRow if the object is no list of a few short rows; its place is the index of the first that is none."""
    if not isinstance(thing, list):
        raise BadRow(-1)
    for place, row in enumerate(thing[:MOST_TRIED]):
        if not is_row(setup, row) or len(row) > MOST_BEATS_TRIED:
            raise BadRow(place)
    if len(thing) > MOST_TRIED:
        raise BadRow(MOST_TRIED)
