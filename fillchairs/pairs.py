"""Beats that are worked out once, and the pairs of states to which they lead two rules, or two rows, side by side."""

from fillchairs.beats import fill_chair, let_in, lost_in
from fillchairs.setups import all_comers, is_tuple
from fillchairs.standings import is_state

MOST_PAIRS = 600
FIRST_PAIR = ((0, (), 0, 0), (0, (), 0, 0))


class BeatBook:
    """The beats of a rule, each worked out once."""

    def __init__(self, setup, ruling):
        self.setup = setup
        self.ruling = ruling
        self.coming = all_comers(setup)
        self.filled = {}
        self.beats = {}
        self.sights = {}

    def beats_from(self, state):
        """Return the list of (comers, chair, state after), ascending by comers, of the beats after a state."""
        if state not in self.beats:
            self.beats[state] = [self.beat_by(state, comers) for comers in self.coming]
        return self.beats[state]

    def sights_from(self, state):
        """Return a dict of all that can be seen of the chair after a state, each with a dict of the states after it.

        With each of these stand comers that lead there.
        """
        if state not in self.sights:
            found = {}
            for comers, (deeds, empty, _, _), after in self.beats_from(state):
                found.setdefault((deeds, empty), {}).setdefault(after, comers)
            self.sights[state] = found
        return self.sights[state]

    def beat_by(self, state, comers):
        """Return (comers, chair, state after) of the beat at which these comers come."""
        waiting, away = let_in(self.setup, state, comers)
        # Many comers lead to the same lines, above all when the room is full.
        if waiting not in self.filled:
            self.filled[waiting] = fill_chair(self.setup, self.ruling, waiting)
        deeds, empty, after = self.filled[waiting]
        return comers, (deeds, empty, lost_in(empty, after), away), after


def beats_of_both(book, other_book, pair):
    """Return the list of (comers, chair, other chair, pair after) of the beats after a pair of states."""
    state, other = pair
    return [
        (comers, chair, other_chair, (after, other_after))
        for (comers, chair, after), (_, other_chair, other_after) in zip(
            book.beats_from(state), other_book.beats_from(other)
        )
    ]


def are_pairs(setup, thing):
    """Return whether any object is a list of pairs of states."""
    return isinstance(thing, list) and all([is_pair_of_states(setup, entry) for entry in thing])


def is_pair_of_states(setup, thing):
    """Return whether any object is a tuple of two states."""
    return is_tuple(thing, 2, 2) and all([is_state(setup, state) for state in thing])


def says(thing, word, many):
    """Return whether any object is a tuple of so many entries that begins with a word."""
    return is_tuple(thing, many, many) and isinstance(thing[0], str) and thing[0] == word
