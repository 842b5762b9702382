"""Somebody who sees the whole row ahead: how few seats can be lost, and how far rules fall behind others.

A stage is a tuple (line, singles, parts) of those who wait after some beats of a row, and of how many parts are left.
A step is a tuple (deeds, lost, stage after it) of one way to fill a chair.
"""

from fillchairs.beats import (
    DEEDS_DONE,
    FIRST_STATE,
    can_do,
    check_row,
    is_deed,
    let_in,
    lost_by,
    lost_in,
    parted_by,
    seat_some,
    way_to,
    ways_from,
)
from fillchairs.errors import BadNumber, BadRule, TooMany
from fillchairs.means import greatest_mean, mean_ring
from fillchairs.setups import check_rule, check_setup, is_integer, is_rule, is_tuple
from fillchairs.standings import is_state

MOST_AHEAD = 16
MOST_RULES = 8
MOST_TO_ORDER = 4


def least_lost(setup, row, *, parts=0):
    """Return the least number of seats lost in a row, if "part" is done at most parts times."""
    check_ahead(setup, row)
    check_count(parts)
    return numbers_of(stages_of(setup, row, parts))[0][first_stage(parts)]


def best_deeds(setup, row, *, parts=0):
    """Return the list of the tuples of deeds by which the fewest seats are lost in a row."""
    check_ahead(setup, row)
    check_count(parts)
    stages = stages_of(setup, row, parts)
    numbers = numbers_of(stages)
    stage = first_stage(parts)
    best = []
    for steps, least, further in zip(stages, numbers, numbers[1:]):
        fewest = [step for step in steps[stage] if step[1] + further[step[2]] == least[stage]]
        deeds, _, stage = fewest[0]
        best.append(deeds)
    return best


def deeds_lose(setup, row, deeds, *, parts=0):
    """Return the seats lost by any object as the deeds of a row, None if these deeds cannot be done."""
    check_ahead(setup, row)
    check_count(parts)
    if not isinstance(deeds, list) or len(deeds) != len(row):
        return None
    state = FIRST_STATE
    lost = 0
    for comers, told in zip(row, deeds):
        waiting, _ = let_in(setup, state, comers)
        chair = chair_by(setup, waiting, told)
        if chair is None:
            return None
        empty, state = chair
        lost += lost_in(empty, state)
    return lost if sum([parts_in(told) for told in deeds]) <= parts else None


def regret(setup, rule, row):
    """Return how many seats more a rule loses in a row than are lost at least with as many parts."""
    check_setup(setup)
    check_rule(rule)
    check_row(setup, row, MOST_AHEAD)
    return lost_by(setup, rule, row) - least_lost(setup, row, parts=parted_by(setup, rule, row))


def ahead_paper(setup, row, *, parts=0):
    """Return for each number of beats the ascending list of all (line, singles, parts, least number still lost)."""
    check_ahead(setup, row)
    check_count(parts)
    return [
        sorted([(*stage, number) for stage, number in numbers.items()])
        for numbers in numbers_of(stages_of(setup, row, parts))
    ]


def ahead_holds(setup, row, most, paper, *, parts=0):
    """Return whether any object is a paper that shows that nobody loses less than most in a row."""
    check_ahead(setup, row)
    check_count(most)
    check_count(parts)
    if not isinstance(paper, list) or len(paper) != len(row) + 1:
        return False
    if not all([are_stage_entries(setup, entries) for entries in paper]):
        return False
    numbers = [{(line, singles, left): number for line, singles, left, number in entries} for entries in paper]
    first = first_stage(parts)
    return (
        all([len(stages) == len(entries) for stages, entries in zip(numbers, paper)])
        and first in numbers[0]
        and numbers[0][first] >= most
        and all([number <= 0 for number in numbers[-1].values()])
        and all([are_below(setup, row, beat, numbers) for beat in range(len(row))])
    )


def best_rules(setup, rules):
    """Return (above, below, places): the least of the greatest means of some rules, and the places that have it."""
    check_setup(setup)
    check_rules(rules)
    means = [greatest_mean(setup, rule) for rule in rules]
    above, below = least_of(means)
    return above, below, [place for place, mean in enumerate(means) if mean == (above, below)]


def foes_of(setup, rules):
    """Return for each of some rules None if it has the least greatest mean, else a ring whose mean is greater."""
    _, _, places = best_rules(setup, rules)
    return [None if place in places else mean_ring(setup, rule) for place, rule in enumerate(rules)]


def best_order(setup, rule):
    """Return (above, below, rules): the least greatest mean of all orders of the rows of a rule, and those with it."""
    check_setup(setup)
    check_rule(rule)
    if len(rule) > MOST_TO_ORDER:
        raise TooMany("too many rows to order")
    means = {order: greatest_mean(setup, order) for order in orders_of(rule)}
    above, below = least_of(list(means.values()))
    return above, below, sorted([order for order, mean in means.items() if mean == (above, below)])


def check_ahead(setup, row):
    """Raise BadSetup or BadRow if the objects are no setup and no row that is short enough to see it ahead."""
    check_setup(setup)
    check_row(setup, row, MOST_AHEAD)


def check_count(thing):
    """Raise BadNumber if the object is no integer from 0 on."""
    if not is_integer(thing) or thing < 0:
        raise BadNumber("not an integer from 0 on")


def check_rules(thing):
    """Raise BadRule if the object is no list of one to eight rules."""
    if not isinstance(thing, list) or not 1 <= len(thing) <= MOST_RULES or not all([is_rule(rule) for rule in thing]):
        raise BadRule("not a list of one to eight rules")


def first_stage(parts):
    """Return the stage before the first beat."""
    return ((), 0, parts)


def stages_of(setup, row, parts):
    """Return for each number of beats a dict of the stages to which deeds can lead, each with its steps."""
    stages = []
    reached = {first_stage(parts): True}
    for beat in range(len(row)):
        steps = steps_at(setup, row, beat, reached)
        stages.append(steps)
        reached = {after: True for found in steps.values() for _, _, after in found}
    stages.append({stage: [] for stage in reached})
    return stages


def numbers_of(stages):
    """Return for each number of beats a dict of the least numbers of seats that must still be lost from its stages."""
    backwards = [{stage: 0 for stage in stages[-1]}]
    for steps in stages[-2::-1]:
        further = backwards[-1]
        backwards.append({
            stage: min([lost + further[after] for _, lost, after in found]) for stage, found in steps.items()
        })
    return backwards[::-1]


def steps_at(setup, row, beat, stages):
    """Return a dict that gives each of some stages before a beat the list of its steps."""
    known = {}
    found = {}
    for line, singles, parts in stages:
        if (line, singles) not in known:
            known[(line, singles)] = fillings_of(setup, row, beat, line, singles)
        found[(line, singles, parts)] = [
            (deeds, lost, (*waiting, parts - parts_in(deeds)))
            for deeds, lost, waiting in known[(line, singles)]
            if parts_in(deeds) <= parts
        ]
    return found


def fillings_of(setup, row, beat, line, singles):
    """Return the list of all (deeds, lost, (line, singles) after them) by which the chair of a beat can be filled.

    Of several orders of deeds that leave the same ones waiting only one is told.
    """
    turn = beat % len(setup[0])
    (_, line, singles, _), _ = let_in(setup, (turn, line, singles, 0), row[beat])
    ways = ways_from((line, singles, setup[0][turn]), deeds_from)
    return [
        (tuple([done for _, done in way_to(ways, filling)]), lost_of(filling), filling[:2]) for filling in ways
    ]


def deeds_from(filling):
    """Return the list of (deed, filling after it) of all deeds other than "go" that can be done."""
    line, singles, left = filling
    front = line[0] if line else 0
    found = []
    for deed in DEEDS_DONE:
        if can_do(deed, front, left, singles):
            done, line_after, left_after, singles_after = seat_some(deed, line, left, singles)
            found.append((done, (line_after, singles_after, left_after)))
    return found


def lost_of(filling):
    """Return how many seats are lost if the chair goes."""
    line, singles, left = filling
    return left if line or singles else 0


def parts_in(deeds):
    """Return how many deeds "part" are among deeds."""
    return sum([1 for name, _ in deeds if name == "part"])


def chair_by(setup, waiting, deeds):
    """Return the empty seats of the chair that any object as its deeds fills, and the state after it, None if none."""
    turn, line, singles, mood = waiting
    left = setup[0][turn]
    if not isinstance(deeds, tuple):
        return None
    for deed in deeds:
        if not is_deed(deed) or not can_do(deed[0], line[0] if line else 0, left, singles):
            return None
        done, line, left, singles = seat_some(deed[0], line, left, singles)
        if deed != done:
            return None
    return left, ((turn + 1) % len(setup[0]), line, singles, mood)


def are_stage_entries(setup, thing):
    """Return whether any object is a list of (line, singles, parts, number)."""
    return isinstance(thing, list) and all([is_stage_entry(setup, entry) for entry in thing])


def is_stage_entry(setup, thing):
    """Return whether any object is a tuple (line, singles, parts, number)."""
    if not is_tuple(thing, 4, 4):
        return False
    line, singles, parts, number = thing
    return (
        is_state(setup, (0, line, singles, 0))
        and is_integer(parts)
        and is_integer(number)
        and parts >= 0
        and number >= 0
    )


def are_below(setup, row, beat, numbers):
    """Return whether no number of a stage before a beat is greater than what any step loses with the next number."""
    further = numbers[beat + 1]
    return all([
        after in further and numbers[beat][stage] <= lost + further[after]
        for stage, steps in steps_at(setup, row, beat, numbers[beat]).items()
        for _, lost, after in steps
    ])


def least_of(means):
    """Return the least of some means (above, below)."""
    least = means[0]
    for above, below in means:
        if above * least[1] < least[0] * below:
            least = (above, below)
    return least


def orders_of(rule):
    """Return the ascending list, without duplicates, of all rules with the rows of a rule in some order."""
    orders = [()]
    for row in rule:
        orders = [(*order[:at], row, *order[at:]) for order in orders for at in range(len(order) + 1)]
    return sorted({order for order in orders})
