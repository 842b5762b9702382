"""The long run: the greatest mean of lost seats, the rings that have it, and papers that show that no row has more."""

from fillchairs.beats import FIRST_STATE, is_row, lost_together, play_on, row_to_state, ways_to_states
from fillchairs.ratios import around, check_fraction, greatest_ratio
from fillchairs.setups import check_rule, check_setup, is_integer, is_tuple
from fillchairs.standings import all_steps, is_standing, moves_in, row_around, step_with


def greatest_mean(setup, rule):
    """Return the greatest mean as a tuple (above, below) in lowest terms."""
    above, below, _, _ = greatest_ratio(mean_graph(all_steps(setup, rule)))
    return above, below


def mean_ring(setup, rule):
    """Return a ring (ahead, round) with the greatest mean."""
    known = all_steps(setup, rule)
    graph = mean_graph(known)
    _, _, ring, _ = greatest_ratio(graph)
    path = [
        (standing, step_with(known[standing], graph[standing][after][0], after))
        for standing, after in around(ring)
    ]
    row, state = row_around(setup, known, path)
    return row_to_state(ways_to_states(setup, rule), state), row


def ring_holds(setup, rule, above, below, ring):
    """Return whether any object is a ring with the mean above / below."""
    check_setup(setup)
    check_rule(rule)
    check_fraction(above, below)
    if not is_pair_of_rows(setup, ring) or not ring[1]:
        return False
    _, before = play_on(setup, rule, FIRST_STATE, ring[0])
    chairs, after = play_on(setup, rule, before, ring[1])
    return after == before and below * lost_together(chairs) == above * len(chairs)


def mean_paper(setup, rule):
    """Return the paper for the greatest mean, ascending, with the least numbers from 0 on."""
    _, _, _, sums = greatest_ratio(mean_graph(all_steps(setup, rule)))
    return sorted([(standing, sums[standing]) for standing in sums])


def paper_holds(setup, rule, above, below, paper):
    """Return whether any object is a paper for above and below."""
    check_setup(setup)
    check_rule(rule)
    check_fraction(above, below)
    if not isinstance(paper, list) or not all([is_numbered_standing(setup, entry) for entry in paper]):
        return False
    numbers = {standing: number for standing, number in paper}
    known = all_steps(setup, rule)
    if len(numbers) < len(paper) or sorted(numbers) != sorted(known):
        return False
    return all([
        below * lost - above + numbers[after] <= numbers[standing]
        for standing in known
        for lost, after in moves_in(known[standing])
    ])


def mean_graph(known):
    """Return the graph of standings for known steps: (the most that one step loses, 1 beat)."""
    # Moves ascend, so of those with the same standing after them the last one loses most.
    return {
        standing: {after: (lost, 1) for lost, after in moves_in(steps)}
        for standing, steps in known.items()
    }


def is_pair_of_rows(setup, thing):
    """Return whether any object is a tuple of two lists of comers, of any number of beats."""
    return is_tuple(thing, 2, 2) and all([is_row(setup, row) for row in thing])


def is_numbered_standing(setup, thing):
    """Return whether any object is a tuple of a standing and an integer."""
    return is_tuple(thing, 2, 2) and is_standing(setup, thing[0]) and is_integer(thing[1])
