"""A second, plain telling of somebody who sees the whole row ahead: all deeds in all orders."""

import random
from functools import lru_cache

from tests.plain import some_row, some_setup


def ahead_cases(seed, many, beats):
    """Many (setup, row, parts), the same for the same seed."""
    dice = random.Random(seed)
    cases = []
    for _ in range(many):
        setup = some_setup(dice)
        cases.append((setup, some_row(dice, setup, dice.randint(0, beats)), dice.choice((0, 0, 1, 2, 5, 10**59))))
    return cases


@lru_cache(maxsize=None)
def all_deeds(line, singles, left):
    """All (deeds, line, singles, left) by which a chair can be filled before it goes, in all orders."""
    found = [((), line, singles, left)]
    steps = []
    if line and line[0] <= left:
        steps.append((("group", line[0]), line[1:], singles, left - line[0]))
    if line and line[0] > left > 0:
        steps.append((("part", left), (line[0] - left, *line[1:]), singles, 0))
    if singles and left:
        steps.append((("single", 1), line, singles - 1, left - 1))
    for done, *rest in steps:
        found += [((done, *deeds), *others) for deeds, *others in all_deeds(*rest)]
    return found


def come(setup, line, singles, comers):
    """The lines when comers have come."""
    groups, more = comers
    return (line + groups)[: max(setup[2][0], len(line))], min(setup[2][1], singles + more)


def chairs_after(setup, beat, comers, line, singles):
    """All (deeds, lost, parted, line, singles) of the chair of a beat."""
    whole = setup[0][beat % len(setup[0])]
    line, singles = come(setup, line, singles, comers)
    found = []
    for deeds, after, alone, left in all_deeds(line, singles, whole):
        parted = len([name for name, _ in deeds if name == "part"])
        found.append((deeds, left if after or alone else 0, parted, after, alone))
    return found


def plain_stages(setup, row, parts):
    """For each number of beats all (line, singles, parts) to which deeds lead, with the least still lost."""
    reached = [{((), 0, parts)}]
    for beat, comers in enumerate(row):
        reached.append({
            (after, alone, left - parted)
            for line, singles, left in reached[-1]
            for _, _, parted, after, alone in chairs_after(setup, beat, comers, line, singles)
            if parted <= left
        })
    numbers = [dict.fromkeys(reached[-1], 0)]
    for beat in range(len(row) - 1, -1, -1):
        numbers.insert(0, {
            (line, singles, left): min(
                lost + numbers[0][after, alone, left - parted]
                for _, lost, parted, after, alone in chairs_after(setup, beat, row[beat], line, singles)
                if parted <= left
            )
            for line, singles, left in reached[beat]
        })
    return numbers


def least_by_trying(setup, row, parts, line=(), singles=0, beat=0):
    """The least number of seats lost, by trying all lists of deeds."""
    if beat == len(row):
        return 0
    return min(
        lost + least_by_trying(setup, row, parts - parted, after, alone, beat + 1)
        for _, lost, parted, after, alone in chairs_after(setup, beat, row[beat], line, singles)
        if parted <= parts
    )


def plain_deeds_lose(setup, row, deeds, parts):
    """The seats lost by a list of tuples of deeds, None if they cannot be done."""
    if len(deeds) != len(row):
        return None
    line, singles, lost = (), 0, 0
    for beat, (comers, done) in enumerate(zip(row, deeds)):
        found = [chair for chair in chairs_after(setup, beat, comers, line, singles) if chair[0] == done]
        if not found:
            return None
        _, more, parted, line, singles = found[0]
        lost += more
        parts -= parted
    return lost if parts >= 0 else None


def is_ahead_paper(setup, row, most, paper, parts):
    """Whether lists of (line, singles, parts, number) show that nobody loses less than most."""
    if len(paper) != len(row) + 1:
        return False
    numbers = [{tuple(entry[:3]): entry[3] for entry in entries} for entries in paper]
    right = all(len(found) == len(entries) for found, entries in zip(numbers, paper))
    right = right and numbers[0].get(((), 0, parts), most - 1) >= most
    right = right and all(number <= 0 for number in numbers[-1].values())
    for beat, comers in enumerate(row):
        for (line, singles, left), number in numbers[beat].items():
            for _, lost, parted, after, alone in chairs_after(setup, beat, comers, line, singles):
                if parted <= left:
                    further = numbers[beat + 1].get((after, alone, left - parted), number - 99)
                    right = right and number <= lost + further
    return right
