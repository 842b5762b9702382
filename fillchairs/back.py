"""What chairs that were seen tell of those who wait: states, rows and sizes, and whether rules can be told apart.

What is seen of a chair is a tuple (deeds, empty).
"""

from fillchairs.beats import FIRST_STATE, is_deed, way_to, ways_from
from fillchairs.errors import BadSeen
from fillchairs.pairs import MOST_PAIRS, BeatBook, says
from fillchairs.setups import check_rule, check_setup, is_number, is_tuple
from fillchairs.standings import is_state

MOST_SEEN = 30
MOST_DEEDS = 5


class Crowds:
    """Sets of states that one may be in after rows that are seen alike: ascending tuples, each with a number."""

    def __init__(self, book):
        self.book = book
        self.members = []
        self.numbers = {}
        self.known = {}

    def number_of(self, states):
        """Return the number of a tuple of states."""
        # A pair with a number is told apart much sooner than one with hundreds of states.
        if states not in self.numbers:
            self.numbers[states] = len(self.members)
            self.members.append(states)
        return self.numbers[states]

    def after(self, number):
        """Return a dict of all that can be seen of the chair after a tuple of states, each with the number after it."""
        if number not in self.known:
            found = {}
            for state in self.members[number]:
                for sight, afters in self.book.sights_from(state).items():
                    crowd = found.setdefault(sight, {})
                    for after in afters:
                        crowd[after] = True
            self.known[number] = {sight: self.number_of(tuple(sorted(crowd))) for sight, crowd in found.items()}
        return self.known[number]


def states_back(setup, rule, seen):
    """Return the ascending list of the states after all rows whose chairs are seen so."""
    check_back(setup, rule, seen)
    return sorted(layers_back(BeatBook(setup, rule), seen)[-1])


def row_back(setup, rule, seen):
    """Return a row whose chairs are seen so, None if there is none."""
    check_back(setup, rule, seen)
    layers = layers_back(BeatBook(setup, rule), seen)
    if not layers[-1]:
        return None
    state = list(layers[-1])[0]
    backwards = []
    for layer in layers[:0:-1]:
        state, comers = layer[state]
        backwards.append(comers)
    return backwards[::-1]


def next_seen(setup, rule, seen):
    """Return the ascending list of all that can be seen of the chair after chairs that are seen so."""
    check_back(setup, rule, seen)
    book = BeatBook(setup, rule)
    return sorted({sight for state in layers_back(book, seen)[-1] for sight in book.sights_from(state)})


def rows_counted(setup, rule, seen):
    """Return how many rows there are whose chairs are seen so."""
    check_back(setup, rule, seen)
    book = BeatBook(setup, rule)
    counts = {FIRST_STATE: 1}
    for sight in seen:
        longer = {}
        for state, count in counts.items():
            for _, (deeds, empty, _, _), after in book.beats_from(state):
                if (deeds, empty) == sight:
                    longer[after] = longer.get(after, 0) + count
        counts = longer
    return sum(list(counts.values()))


def sizes_back(setup, rule, seen):
    """Return the ascending list of all tuples of the sizes of all groups let in by rows whose chairs are seen so."""
    check_back(setup, rule, seen)
    seated, parted = sizes_seated(seen)
    # Only the sizes of those who still wait can differ, and part of the group in front may have sat.
    return sorted({
        (*seated, *whole_line(line, parted)) for _, line, _, _ in layers_back(BeatBook(setup, rule), seen)[-1]
    })


def seen_within(setup, rule, other):
    """Return ("within", pairs) if all that is seen by a rule can be seen by the other one, else ("not", seen)."""
    book, crowds = book_and_crowds(setup, rule, other)
    ways = ways_within(book, crowds)
    # The ways stand in the order of their lengths, so the first list found is a shortest one.
    for state, number in ways:
        for sight in book.sights_from(state):
            if sight not in crowds.after(number):
                return "not", [passed for _, passed in way_to(ways, (state, number))] + [sight]
    return "within", sorted([(state, crowds.members[number]) for state, number in ways])


def within_holds(setup, rule, other, answer):
    """Return whether any object is an answer of seen_within that shows what it says."""
    book, crowds = book_and_crowds(setup, rule, other)
    ways_within(book, crowds)
    if says(answer, "not", 2) and are_sights(answer[1]):
        return bool(layers_back(book, answer[1])[-1]) and not layers_back(crowds.book, answer[1])[-1]
    if not says(answer, "within", 2) or not isinstance(answer[1], list):
        return False
    if not all([is_crowd_pair(setup, entry) for entry in answer[1]]):
        return False
    listed = {}
    for state, others in answer[1]:
        listed.setdefault(state, {})[crowds.number_of(others)] = True
    return crowds.number_of((FIRST_STATE,)) in listed.get(FIRST_STATE, {}) and all([
        leads_on(book, crowds, listed, state, number) for state, numbers in listed.items() for number in numbers
    ])


def check_back(setup, rule, seen):
    """Raise BadSetup, BadRule or BadSeen if the objects are not a setup, a rule, and chairs that were seen."""
    check_setup(setup)
    check_rule(rule)
    if not are_sights(seen) or len(seen) > MOST_SEEN:
        raise BadSeen("not a list of chairs that were seen")


def are_sights(thing):
    """Return whether any object is a list of what can be seen of chairs, of any length."""
    return isinstance(thing, list) and all([is_sight(entry) for entry in thing])


def is_sight(thing):
    """Return whether any object is a tuple (deeds, empty) of what can be seen of a chair."""
    return (
        is_tuple(thing, 2, 2)
        and is_tuple(thing[0], 0, MOST_DEEDS)
        and all([is_deed(deed) and is_number(deed[1], 1, 1 if deed[0] == "single" else 5) for deed in thing[0]])
        and is_number(thing[1], 0, 5)
    )


def layers_back(book, seen):
    """Return for each number of chairs a dict of the states after all rows that are seen so.

    With each state stands a tuple of a state before it and the comers that lead on, None with the first state.
    """
    layers = [{FIRST_STATE: None}]
    for sight in seen:
        layer = {}
        for state in layers[-1]:
            for after, comers in book.sights_from(state).get(sight, {}).items():
                layer[after] = (state, comers)
        layers.append(layer)
    return layers


def sizes_seated(seen):
    """Return the list of the sizes of the groups that have sat, and how many of the group in front have."""
    sizes = []
    parted = 0
    for deeds, _ in seen:
        for name, number in deeds:
            if name == "part":
                parted += number
            elif name == "group":
                sizes.append(parted + number)
                parted = 0
    return sizes, parted


def whole_line(line, parted):
    """Return the sizes of the groups that wait as they came, when so many of the group in front have sat."""
    return (line[0] + parted, *line[1:]) if line else ()


def book_and_crowds(setup, rule, other):
    """Return the book of the beats of a rule and the crowds of the other rule, once all is checked."""
    check_setup(setup)
    check_rule(rule)
    check_rule(other)
    return BeatBook(setup, rule), Crowds(BeatBook(setup, other))


def ways_within(book, crowds):
    """Return a dict of the ways to all pairs (state, number of a crowd); raise TooMany if there are too many."""
    first = (FIRST_STATE, crowds.number_of((FIRST_STATE,)))
    return ways_from(first, lambda pair: steps_within(book, crowds, pair), MOST_PAIRS)


def steps_within(book, crowds, pair):
    """Return the list of (what is seen, pair after it) of the beats that the other rule can show, too."""
    state, number = pair
    others = crowds.after(number)
    return [
        (sight, (after, others[sight]))
        for sight, afters in book.sights_from(state).items()
        if sight in others
        for after in afters
    ]


def is_crowd_pair(setup, thing):
    """Return whether any object is a tuple of a state and an ascending tuple, not empty, of states."""
    if not is_tuple(thing, 2, 2) or not is_state(setup, thing[0]) or not isinstance(thing[1], tuple):
        return False
    others = thing[1]
    return (
        len(others) > 0
        and all([is_state(setup, state) for state in others])
        and all([low <= high for low, high in zip(others, others[1:])])
    )


def leads_on(book, crowds, listed, state, number):
    """Return whether all comers lead from a pair to a listed state, with some of the states seen alike."""
    others = crowds.after(number)
    return all([
        sight in others and has_part(crowds, listed.get(after, {}), others[sight])
        for sight, afters in book.sights_from(state).items()
        for after in afters
    ])


def has_part(crowds, numbers, number):
    """Return whether one of some tuples of states has no states but those of the tuple with a number."""
    if number in numbers:
        return True
    allowed = {state: True for state in crowds.members[number]}
    return any([all([state in allowed for state in crowds.members[part]]) for part in numbers])
