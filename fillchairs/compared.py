"""Two rules side by side: whether they ever fill chairs unlike, and how far one can fall after the other one."""

from fillchairs.beats import FIRST_STATE, is_row, lost_together, play_on, row_to_state, way_to, ways_from
from fillchairs.means import is_pair_of_rows
from fillchairs.pairs import (
    FIRST_PAIR,
    MOST_PAIRS,
    BeatBook,
    are_pairs,
    beats_of_both,
    is_pair_of_states,
    says,
)
from fillchairs.ratios import around, most_sums
from fillchairs.setups import check_rule, check_setup, is_integer, is_tuple


def rules_alike(setup, rule, other):
    """Return ("same", pairs) if all rows have equal chairs by both rules, else ("other", row)."""
    book, other_book = books_of(setup, rule, other)
    ways = ways_from(FIRST_PAIR, lambda pair: steps_alike(book, other_book, pair))
    # The ways stand in the order of their lengths, so the first row found is a shortest one.
    for pair in ways:
        for comers, chair, other_chair, _ in beats_of_both(book, other_book, pair):
            if chair != other_chair:
                return "other", row_to_state(ways, pair) + [comers]
    return "same", sorted(ways)


def alike_holds(setup, rule, other, answer):
    """Return whether any object is an answer of rules_alike that shows what it says."""
    book, other_book = books_of(setup, rule, other)
    if says(answer, "other", 2) and is_row(setup, answer[1]):
        chairs, _ = play_on(setup, rule, FIRST_STATE, answer[1])
        other_chairs, _ = play_on(setup, other, FIRST_STATE, answer[1])
        return chairs != other_chairs
    if not says(answer, "same", 2) or not are_pairs(setup, answer[1]):
        return False
    listed = {pair: True for pair in answer[1]}
    return FIRST_PAIR in listed and all([
        chair == other_chair and after in listed
        for pair in listed
        for _, chair, other_chair, after in beats_of_both(book, other_book, pair)
    ])


def greatest_gap(setup, rule, other):
    """Return the greatest gap of all rows, None if there is none greatest."""
    book, other_book = books_of(setup, rule, other)
    sums, ring = most_sums(weights_of(widest_steps(book, other_book, ways_to_gaps(book, other_book))))
    return None if ring else sums[FIRST_PAIR]


def gap_paper(setup, rule, other):
    """Return the ascending list of all (state, other, number), or a ring (ahead, round) by which the gap grows."""
    book, other_book = books_of(setup, rule, other)
    ways = ways_to_gaps(book, other_book)
    widest = widest_steps(book, other_book, ways)
    sums, ring = most_sums(weights_of(widest))
    if ring:
        ahead = [comers for _, (comers, _) in way_to(ways, ring[0])]
        return ahead, [widest[pair][after][0] for pair, after in around(ring)]
    return sorted([(state, other_state, number) for (state, other_state), number in sums.items()])


def gap_holds(setup, rule, other, paper):
    """Return whether any object is a paper that bounds the gap, or a ring by which it grows without end."""
    book, other_book = books_of(setup, rule, other)
    ways_to_gaps(book, other_book)
    if is_pair_of_rows(setup, paper):
        ahead, again = paper
        return gap_grows(setup, rule, other, ahead, again)
    if not isinstance(paper, list) or not all([is_gap_entry(setup, entry) for entry in paper]):
        return False
    numbers = {(state, other_state): number for state, other_state, number in paper}
    return len(numbers) == len(paper) and FIRST_PAIR in numbers and all([
        after in numbers and numbers[after] <= numbers[pair] - gap
        for pair in numbers
        for (_, gap), after in gap_steps(book, other_book, pair)
    ])


def books_of(setup, rule, other):
    """Return the books of the beats of two rules, once all is checked."""
    check_setup(setup)
    check_rule(rule)
    check_rule(other)
    return BeatBook(setup, rule), BeatBook(setup, other)


def steps_alike(book, other_book, pair):
    """Return the list of (comers, pair after it) of the beats that have equal chairs."""
    beats = beats_of_both(book, other_book, pair)
    return [(comers, after) for comers, chair, other_chair, after in beats if chair == other_chair]


def gap_steps(book, other_book, pair):
    """Return the list of ((comers, gap), pair after it) of the beats after a pair of states."""
    return [
        ((comers, chair[2] - other_chair[2]), after)
        for comers, chair, other_chair, after in beats_of_both(book, other_book, pair)
    ]


def ways_to_gaps(book, other_book):
    """Return a dict of the ways to all pairs of states after rows; raise TooMany if there are too many."""
    return ways_from(FIRST_PAIR, lambda pair: gap_steps(book, other_book, pair), MOST_PAIRS)


def widest_steps(book, other_book, ways):
    """Return a dict that gives each pair a dict of the pairs after it, each with a step of the greatest gap."""
    widest = {}
    for pair in ways:
        steps = {}
        for step, after in gap_steps(book, other_book, pair):
            if after not in steps or steps[after][1] < step[1]:
                steps[after] = step
        widest[pair] = steps
    return widest


def weights_of(widest):
    """Return the graph of pairs with the gaps of these steps."""
    return {pair: {after: gap for after, (_, gap) in steps.items()} for pair, steps in widest.items()}


def is_gap_entry(setup, thing):
    """Return whether any object is a tuple of two states and an integer from 0 on."""
    return is_tuple(thing, 3, 3) and is_pair_of_states(setup, thing[:2]) and is_integer(thing[2]) and thing[2] >= 0


def gap_grows(setup, rule, other, ahead, again):
    """Return whether both rules come back to their states by a row that lets the gap grow."""
    gap = 0
    for ruling, sign in ((rule, 1), (other, -1)):
        _, before = play_on(setup, ruling, FIRST_STATE, ahead)
        chairs, after = play_on(setup, ruling, before, again)
        if after != before:
            return False
        gap += sign * lost_together(chairs)
    return gap > 0
