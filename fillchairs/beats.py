"""Beats: comers are let in, then the rule fills the chair, and it goes."""

from fillchairs.errors import BadRow, TooMany
from fillchairs.setups import all_comers, check_rule, check_setup, is_comers, is_integer, is_tuple

FIRST_STATE = (0, (), 0, 0)
MOST_BEATS = 300
# The deeds that a chair tells of.
DEEDS_DONE = ("group", "single", "part")


def chairs_of(setup, rule, row):
    """Return the list of the chairs of a row of comers."""
    chairs, _ = play_row(setup, rule, row)
    return chairs


def state_after(setup, rule, row):
    """Return the state after a row of comers."""
    _, state = play_row(setup, rule, row)
    return state


def lost_by(setup, rule, row):
    """Return how many seats are lost in a row of comers, together."""
    return lost_together(chairs_of(setup, rule, row))


def parted_by(setup, rule, row):
    """Return how many deeds "part" are done in a row of comers."""
    chairs = chairs_of(setup, rule, row)
    return sum([1 for deeds, _, _, _ in chairs for name, _ in deeds if name == "part"])


def all_states(setup, rule):
    """Return the ascending list of the states after all rows."""
    return sorted(ways_to_states(setup, rule))


def turned_away(setup, rule):
    """Return a shortest row that turns somebody away, None if there is none."""
    ways = ways_to_states(setup, rule)
    coming = all_comers(setup)
    # The ways stand in the order of their lengths, so the first row found is a shortest one.
    for state in ways:
        for comers in coming:
            _, away = let_in(setup, state, comers)
            if away != (0, 0):
                return row_to_state(ways, state) + [comers]
    return None


def play_row(setup, rule, row):
    """Return the chairs of a row of comers and the state after it, once all three are checked."""
    check_setup(setup)
    check_rule(rule)
    check_row(setup, row)
    return play_on(setup, rule, FIRST_STATE, row)


def play_on(setup, rule, state, row):
    """Return the chairs of a row of comers that come after a state, and the state after them."""
    chairs = []
    for comers in row:
        chair, state = play_beat(setup, rule, state, comers)
        chairs.append(chair)
    return chairs, state


def check_row(setup, thing, most=MOST_BEATS):
    """Raise BadRow if the object is no row of comers of the setup, of at most so many beats."""
    if not isinstance(thing, list):
        raise BadRow(-1)
    for place, entry in enumerate(thing[:most]):
        if not is_comers(setup, entry):
            raise BadRow(place)
    if len(thing) > most:
        raise BadRow(most)


def is_row(setup, thing):
    """Return whether any object is a row of comers of the setup, of any number of beats."""
    return isinstance(thing, list) and all([is_comers(setup, entry) for entry in thing])


def is_deed(thing):
    """Return whether any object is a tuple of the name of a deed that a chair tells of, and an integer."""
    return is_tuple(thing, 2, 2) and isinstance(thing[0], str) and thing[0] in DEEDS_DONE and is_integer(thing[1])


def play_beat(setup, rule, state, comers):
    """Return the chair of a beat and the state after it."""
    waiting, away = let_in(setup, state, comers)
    deeds, empty, after = fill_chair(setup, rule, waiting)
    return (deeds, empty, lost_in(empty, after), away), after


def let_in(setup, state, comers):
    """Return the state with the comers in their lines, and how many (groups, singles) found no room."""
    turn, line, singles, mood = state
    groups, more = comers
    most_groups, most_singles = setup[2]
    free = most_groups - len(line)
    staying = min(more, most_singles - singles)
    away = (max(0, len(groups) - free), more - staying)
    return (turn, line + groups[:free], singles + staying, mood), away


def fill_chair(setup, rule, waiting):
    """Return the deeds of the chair that goes next, its empty seats, and the state after it."""
    seats = setup[0]
    turn, line, singles, mood = waiting
    left = seats[turn]
    deeds = []
    going = False
    while not going:
        deed, mood = next_deed(rule, line, left, singles, mood)
        if deed == "go":
            going = True
        else:
            done, line, left, singles = seat_some(deed, line, left, singles)
            deeds.append(done)
    return tuple(deeds), left, ((turn + 1) % len(seats), line, singles, mood)


def lost_together(chairs):
    """Return how many seats are lost in some chairs, together."""
    return sum([lost for _, _, lost, _ in chairs])


def lost_in(empty, after):
    """Return how many of the empty seats are lost, which they are if somebody waits in the state after."""
    return empty if after[1] or after[2] else 0


def next_deed(rule, line, left, singles, mood):
    """Return the deed of the first row of the rule that fits, and the mood after it."""
    front = line[0] if line else 0
    for when, fronts, lefts, waitings, deed, after in rule:
        if (
            when == mood
            and within(front, fronts)
            and within(left, lefts)
            and within(singles, waitings)
            and can_do(deed, front, left, singles)
        ):
            return deed, after
    # Without a row that fits, the chair goes and the mood stays.
    return "go", mood


def within(number, span):
    """Return whether a number is in a range (low, high)."""
    return span[0] <= number <= span[1]


def can_do(deed, front, left, singles):
    """Return whether a deed can be done, front being 0 if no group waits."""
    if deed == "group":
        return 0 < front <= left
    if deed == "single":
        return singles > 0 and left > 0
    if deed == "part":
        return front > left > 0
    return True


def seat_some(deed, line, left, singles):
    """Return a deed other than "go" as a chair tells it, and line, seats left and singles after it."""
    if deed == "single":
        return ("single", 1), line, left - 1, singles - 1
    front = line[0]
    if deed == "group":
        return ("group", front), line[1:], left - front, singles
    return ("part", left), (front - left, *line[1:]), 0, singles


def ways_to_states(setup, rule):
    """Return a dict of all states after rows, those of shorter rows first.

    With each state stands a tuple of a state one beat before it and the comers that lead on,
    None with the first state.
    """
    check_setup(setup)
    check_rule(rule)
    coming = all_comers(setup)
    ways = {FIRST_STATE: None}
    order = [FIRST_STATE]
    # Many comers lead to the same lines, above all when the room is full: these are filled once.
    filled = set()
    at = 0
    while at < len(order):
        state = order[at]
        for comers in coming:
            waiting, _ = let_in(setup, state, comers)
            if waiting not in filled:
                filled.add(waiting)
                _, _, after = fill_chair(setup, rule, waiting)
                if after not in ways:
                    ways[after] = (state, comers)
                    order.append(after)
        at += 1
    return ways


def ways_from(first, steps_from, most=None):
    """Return a dict of all things to which steps lead from the first one, those of fewer steps first.

    steps_from gives a thing the list of (step, thing after it). With each thing stands a tuple of a thing one step
    before it and this step, None with the first one. TooMany is raised if there are more things than most.
    """
    ways = {first: None}
    order = [first]
    at = 0
    while at < len(order):
        thing = order[at]
        for step, after in steps_from(thing):
            if after not in ways:
                if len(order) == most:
                    raise TooMany("too many to look through")
                ways[after] = (thing, step)
                order.append(after)
        at += 1
    return ways


def row_to_state(ways, state):
    """Return a row of comers, as short as any, that leads to a state, or to another thing, among the ways."""
    return [comers for _, comers in way_to(ways, state)]


def way_to(ways, thing):
    """Return the list of the tuples (thing before, what leads on) by which the first one leads to a thing."""
    backwards = []
    while ways[thing] is not None:
        backwards.append(ways[thing])
        thing, _ = ways[thing]
    return backwards[::-1]
