"""Waits: how many chairs go before a group or a single sits, at most, and what shows it.

Whoever waits is followed from place to place. A place is a tuple (standing, ahead); here ahead is None as long as the
one who is followed has not been let in.
"""

from fillchairs.beats import chairs_of, way_to, ways_from
from fillchairs.errors import BadNumber, BadWho
from fillchairs.ratios import around, most_sums
from fillchairs.setups import check_rule, check_setup, is_integer, is_number, is_tuple
from fillchairs.standings import (
    FIRST_STANDING,
    all_steps,
    is_standing,
    row_along,
    row_around,
    some_state,
    steps_of,
    waiting_in,
)

# The indexes are those of (groups, singles), too.
WHOS = ("group", "single")
NOBODY = ((), 0)


def wait_of(setup, rule, row, who, number):
    """Return how many chairs went until a group or a single of a row sat, None if it does not sit."""
    return wait_in(row, chairs_of(setup, rule, row), who, number)


def wait_in(row, chairs, who, number):
    """Return how many chairs went until a group or a single of a row with these chairs sat, None if it does not sit."""
    at = index_of(who)
    came = []
    sat = []
    for beat, (deeds, _, _, away) in enumerate(chairs):
        groups, singles = row[beat]
        coming = (len(groups), singles)
        came.extend([beat] * (coming[at] - away[at]))
        sat.extend([beat for name, _ in deeds if name == who])
    if not is_number(number, 0, len(came) - 1):
        raise BadNumber("nobody with this number is let in")
    return sat[number] - came[number] if number < len(sat) else None


def greatest_wait(setup, rule, who):
    """Return the greatest wait of a group or a single in any row, None if there is none."""
    known, at = steps_and_index(setup, rule, who)
    numbers, ring = numbered_places(known, at, ways_to_places(known, at))
    return None if ring else greatest_of(numbers)


def wait_row(setup, rule, who):
    """Return a row and the number of one who waits longest in it, or a ring and the number of one who waits for ever.

    None is returned if no group or no single can be let in.
    """
    known, at = steps_and_index(setup, rule, who)
    if min(setup[3][at], setup[2][at]) == 0:
        return None
    ways = ways_to_places(known, at)
    numbers, ring = numbered_places(known, at, ways)
    if ring:
        return endless_wait(setup, known, at, ways, ring)
    if not numbers:
        # All sit as they come, so does whoever comes first.
        return [((setup[1][0],), 0) if who == "group" else ((), 1)], 0
    return longest_wait(setup, known, at, ways, numbers)


def wait_paper(setup, rule, who):
    """Return the ascending list of all places in rows with their greatest further waits, None if one has none."""
    known, at = steps_and_index(setup, rule, who)
    numbers, ring = numbered_places(known, at, ways_to_places(known, at))
    return None if ring else sorted([(place, numbers[place]) for place in numbers])


def waits_fall(setup, rule, who, paper):
    """Return whether any object is a wait paper."""
    known, at = steps_and_index(setup, rule, who)
    if not isinstance(paper, list) or not all([is_numbered_place(setup, at, entry) for entry in paper]):
        return False
    numbers = {place: number for place, number in paper}
    firsts = [place for steps in known.values() for step in steps for place in first_places(step, at)]
    if len(numbers) < len(paper) or not all([place in numbers for place in firsts]):
        return False
    for standing, _ in numbers:
        if standing not in known:
            known[standing] = steps_of(setup, rule, standing)
    return all([
        after in numbers and numbers[after] < numbers[place]
        for place in numbers
        for _, after in moves_on(known, at, place)
    ])


def index_of(who):
    """Return the index of those who are meant in (groups, singles); raise BadWho if the object names neither."""
    if not isinstance(who, str) or who not in WHOS:
        raise BadWho("neither a group nor a single")
    return WHOS.index(who)


def steps_and_index(setup, rule, who):
    """Return all standings in rows with their steps, and the index of those who are meant, once all is checked."""
    check_setup(setup)
    check_rule(rule)
    at = index_of(who)
    return all_steps(setup, rule), at


def is_numbered_place(setup, at, thing):
    """Return whether any object is a tuple of a place and an integer from 0 on."""
    if not is_tuple(thing, 2, 2) or not is_tuple(thing[0], 2, 2):
        return False
    (standing, ahead), number = thing
    return (
        is_standing(setup, standing)
        and is_number(ahead, 0, waiting_in(standing)[at] - 1)
        and is_integer(number)
        and number >= 0
    )


def first_places(step, at):
    """Return the list of the places at which those wait after a step who were let in by it."""
    _, came, after = step
    waiting = waiting_in(after)[at]
    return [(after, ahead) for ahead in range(max(0, waiting - came[at]), waiting)]


def moves_on(known, at, place):
    """Return the list of (step, place after it) for one who waits at a place, or has not been let in."""
    standing, ahead = place
    moves = []
    for step in known[standing]:
        _, came, after = step
        if ahead is None:
            moves.extend([(step, first) for first in [(after, None), *first_places(step, at)]])
        else:
            gone = waiting_in(standing)[at] + came[at] - waiting_in(after)[at]
            if gone <= ahead:
                moves.append((step, (after, ahead - gone)))
    return moves


def ways_to_places(known, at):
    """Return a dict of all places in rows, those of shorter rows first, each with (place before it, step).

    Also those who have not been let in have places there; with the first one of these stands None.
    """
    return ways_from((FIRST_STANDING, None), lambda place: moves_on(known, at, place))


def numbered_places(known, at, ways):
    """Return all places in rows, each with the most chairs that yet go without the one there, and [].

    If there is no most, a ring of places is returned in the place of [].
    """
    return most_sums({
        place: {after: 1 for _, after in moves_on(known, at, place)}
        for place in ways
        if place[1] is not None
    })


def greatest_of(numbers):
    """Return the greatest wait that comes of numbered places."""
    return max([number + 1 for number in numbers.values()], default=0)


def longest_wait(setup, known, at, ways, numbers):
    """Return a row, as short as any, by which one waits longest and sits, and the number of that one."""
    greatest = greatest_of(numbers)
    # Whoever waits longest has just been let in there, so a shortest way to the place lets nobody wait before.
    furthest = [place for place in ways if numbers.get(place, -1) == greatest - 1]
    place = furthest[0]
    path = path_to(ways, place)
    number = number_at(path, at, place)
    while numbers[place] > 0:
        longest = [move for move in moves_on(known, at, place) if numbers[move[1]] == numbers[place] - 1]
        step, after = longest[0]
        path.append((place[0], step))
        place = after
    row, _ = row_along(known, path, some_state(setup, place[0]))
    return row + [NOBODY], number


def endless_wait(setup, known, at, ways, ring):
    """Return (ahead, round, number) by which one waits for ever on a ring of places."""
    path = []
    for place, after in around(ring):
        steps = [step for step, other in moves_on(known, at, place) if other == after]
        path.append((place[0], steps[0]))
    row, state = row_around(setup, known, path)
    path = path_to(ways, ring[0])
    ahead, _ = row_along(known, path, state)
    return ahead, row, number_at(path, at, ring[0])


def path_to(ways, place):
    """Return the path of standings and steps that leads to a place."""
    return [(before[0], step) for before, step in way_to(ways, place)]


def number_at(path, at, place):
    """Return the number of the one who waits at a place to which a path leads."""
    standing, ahead = place
    let_in = sum([came[at] for _, (_, came, _) in path])
    return let_in - waiting_in(standing)[at] + ahead
