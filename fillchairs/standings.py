"""Standings: what of a state a beat hangs on, their moves, and walks of them.

Nothing hangs on the size of a group before it comes to the front. So the sizes can be chosen afterwards, going back
from the last beat to the first one, and each walk of standings is that of a row.
"""

from fillchairs.beats import MOST_BEATS, fill_chair, let_in, lost_in, ways_to_states
from fillchairs.errors import BadStanding, BadState, BadWalk
from fillchairs.setups import all_comers, are_numbers, check_rule, check_setup, is_integer, is_number, is_tuple

FIRST_STANDING = (0, 0, 0, 0, 0)


def standing_of(setup, state):
    """Return the standing of a state."""
    check_setup(setup)
    if not is_state(setup, state):
        raise BadState("not a state of the setup")
    return standing_in(state)


def moves_of(setup, rule, standing):
    """Return the ascending list of the moves (lost, standing after) of a standing."""
    check_setup(setup)
    check_rule(rule)
    if not is_standing(setup, standing):
        raise BadStanding("not a standing of the setup")
    return moves_in(steps_of(setup, rule, standing))


def all_standings(setup, rule):
    """Return the ascending list of the standings of all states after rows."""
    return sorted({standing_in(state) for state in ways_to_states(setup, rule)})


def walk_row(setup, rule, walk):
    """Return a row of comers with the lost seats and the standings of a walk."""
    check_setup(setup)
    check_rule(rule)
    if not isinstance(walk, list):
        raise BadWalk(-1)
    known = {}
    path = []
    standing = FIRST_STANDING
    for place, entry in enumerate(walk[:MOST_BEATS]):
        if standing not in known:
            known[standing] = steps_of(setup, rule, standing)
        if not is_move(setup, known[standing], entry):
            raise BadWalk(place)
        lost, after = entry
        path.append((standing, step_with(known[standing], lost, after)))
        standing = after
    if len(walk) > MOST_BEATS:
        raise BadWalk(MOST_BEATS)
    row, _ = row_along(known, path, some_state(setup, standing))
    return row


def is_state(setup, thing):
    """Return whether any object is a state, its groups having sizes from 1 to 5."""
    if not is_tuple(thing, 4, 4):
        return False
    turn, line, singles, mood = thing
    return (
        is_number(turn, 0, len(setup[0]) - 1)
        and is_tuple(line, 0, setup[2][0])
        and are_numbers(line, 1, 5)
        and is_number(singles, 0, setup[2][1])
        and is_number(mood, 0, 2)
    )


def is_standing(setup, thing):
    """Return whether any object is the standing of a state."""
    if not is_tuple(thing, 5, 5):
        return False
    turn, front, behind, singles, mood = thing
    return (
        is_number(turn, 0, len(setup[0]) - 1)
        and is_number(front, 0, 5)
        and is_number(behind, 0, setup[2][0] - 1 if front else 0)
        and is_number(singles, 0, setup[2][1])
        and is_number(mood, 0, 2)
    )


def is_move(setup, steps, thing):
    """Return whether any object is a move of the standing that has these steps."""
    return (
        is_tuple(thing, 2, 2)
        and is_integer(thing[0])
        and is_standing(setup, thing[1])
        and thing in moves_in(steps)
    )


def standing_in(state):
    """Return the standing of a state that is one."""
    turn, line, singles, mood = state
    return (turn, line[0] if line else 0, max(0, len(line) - 1), singles, mood)


def waiting_in(standing):
    """Return how many (groups, singles) wait in a standing."""
    _, front, behind, singles, _ = standing
    return (behind + 1 if front else 0, singles)


def states_with(setup, standing):
    """Return the ascending list of the states with a standing, the groups behind having sizes of the setup."""
    turn, front, behind, singles, mood = standing
    lines = [(front,) if front else ()]
    for _ in range(behind):
        lines = [(*line, size) for line in lines for size in setup[1]]
    return [(turn, line, singles, mood) for line in lines]


def some_state(setup, standing):
    """Return a state with a standing, the groups behind having sizes of the setup."""
    return states_with(setup, standing)[0]


def steps_of(setup, rule, standing):
    """Return a dict of the steps of a standing.

    A step is a tuple (lost, how many (groups, singles) are let in, standing after). It stands with a dict that gives
    each state after it a tuple (state, comers) that leads there by this step.
    """
    coming = all_comers(setup)
    groups, singles = waiting_in(standing)
    steps = {}
    filled = set()
    for state in states_with(setup, standing):
        for comers in coming:
            waiting, _ = let_in(setup, state, comers)
            if waiting not in filled:
                filled.add(waiting)
                _, empty, after = fill_chair(setup, rule, waiting)
                came = (len(waiting[1]) - groups, waiting[2] - singles)
                step = (lost_in(empty, after), came, standing_in(after))
                steps.setdefault(step, {}).setdefault(after, (state, comers))
    return steps


def all_steps(setup, rule):
    """Return a dict of all standings of states after rows, each with its steps, once setup and rule are checked."""
    return {standing: steps_of(setup, rule, standing) for standing in all_standings(setup, rule)}


def moves_in(steps):
    """Return the ascending list of the moves that are made by steps."""
    return sorted({(lost, after) for lost, _, after in steps})


def step_with(steps, lost, after):
    """Return the first of the steps with these lost seats and this standing after it."""
    return [step for step in steps if step[0] == lost and step[2] == after][0]


def row_along(known, path, state):
    """Return a row of comers that ends in a state, and the state before it.

    A path is a list of tuples (standing, step of it), one after the other; known gives each standing its steps.
    """
    backwards = []
    for standing, step in path[::-1]:
        state, comers = known[standing][step][state]
        backwards.append(comers)
    return backwards[::-1], state


def row_around(setup, known, path):
    """Return a row of comers along a path that comes back to its standing, and the state that comes back."""
    state = some_state(setup, path[0][0])
    row, before = row_along(known, path, state)
    # Going back, groups get the sizes that they come to the front with, each time the same ones. So nothing changes
    # any more once all groups that wait have come to the front, or if none ever does.
    while before != state:
        state = before
        row, before = row_along(known, path, state)
    return row, state
