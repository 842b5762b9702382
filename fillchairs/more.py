"""One single more: whether it can ever make more groups wait, and what shows it.

Two rows that are told apart by one single more are followed together. Here a pair is a tuple (state, other) of the
states after them, other being None as long as the rows are equal.
"""

from fillchairs.beats import FIRST_STATE, is_row, play_on, row_to_state, way_to, ways_from
from fillchairs.pairs import MOST_PAIRS, BeatBook, are_pairs, says
from fillchairs.setups import check_rule, check_setup, is_number

START = ((0, (), 0, 0), None)


def one_more(setup, rule):
    """Return ("never", pairs) if one single more never makes more groups wait, else ("row", row, place)."""
    check_setup(setup)
    check_rule(rule)
    ways = ways_to_pairs(BeatBook(setup, rule))
    # The ways stand in the order of their lengths, so the first pair found has a shortest row.
    worse = [pair for pair in ways if is_worse(pair)]
    if not worse:
        return "never", sorted([pair for pair in ways if is_apart(pair)])
    equal = [pair for pair, _ in way_to(ways, worse[0]) if not is_apart(pair)]
    return "row", row_to_state(ways, worse[0]), len(equal) - 1


def one_more_holds(setup, rule, answer):
    """Return whether any object is an answer of one_more that shows what it says."""
    check_setup(setup)
    check_rule(rule)
    book = BeatBook(setup, rule)
    ways = ways_to_pairs(book)
    if says(answer, "row", 3):
        return is_worse_row(setup, rule, answer[1], answer[2])
    return says(answer, "never", 2) and are_pairs(setup, answer[1]) and never_worse(book, ways, answer[1])


def ways_to_pairs(book):
    """Return a dict of the ways to all pairs; raise TooMany if too many of them are of rows that are told apart."""
    alone = ways_from(START, lambda pair: steps_alike(book, pair))
    return ways_from(START, lambda pair: steps_alike(book, pair) + steps_apart(book, pair), len(alone) + MOST_PAIRS)


def calm_beats(book, state):
    """Return a dict of the comers by which nobody is turned away after a state, each with the state after them."""
    return {comers: after for comers, chair, after in book.beats_from(state) if chair[3] == (0, 0)}


def steps_alike(book, pair):
    """Return the list of (comers, pair after it) for equal comers in both rows by which nobody is turned away."""
    state, other = pair
    calm = calm_beats(book, state)
    if not is_apart(pair):
        return [(comers, (after, None)) for comers, after in calm.items()]
    others = calm_beats(book, other)
    return [(comers, (after, others[comers])) for comers, after in calm.items() if comers in others]


def steps_apart(book, pair):
    """Return the list of (comers, pair after it) for comers with one single more in the other row."""
    if is_apart(pair):
        return []
    calm = calm_beats(book, pair[0])
    return [
        ((groups, singles), (after, calm[(groups, singles + 1)]))
        for (groups, singles), after in calm.items()
        if (groups, singles + 1) in calm
    ]


def is_apart(pair):
    """Return whether a pair is one of rows that are told apart by now."""
    return pair[1] is not None


def is_worse(pair):
    """Return whether more groups wait after the row with one single more."""
    state, other = pair
    return is_apart(pair) and len(other[1]) > len(state[1])


def is_worse_row(setup, rule, row, place):
    """Return whether any objects are a row and a place where one single more makes more groups wait after it."""
    if not is_row(setup, row) or not is_number(place, 0, len(row) - 1):
        return False
    groups, singles = row[place]
    longer = row[:place] + [(groups, singles + 1)] + row[place + 1:]
    if not is_row(setup, longer):
        return False
    chairs, state = play_on(setup, rule, FIRST_STATE, row)
    other_chairs, other = play_on(setup, rule, FIRST_STATE, longer)
    return is_worse((state, other)) and all([away == (0, 0) for _, _, _, away in chairs + other_chairs])


def never_worse(book, ways, pairs):
    """Return whether a list of pairs shows that no single more ever makes more groups wait."""
    listed = {pair: True for pair in pairs}
    firsts = [after for pair in ways for _, after in steps_apart(book, pair)]
    return (
        not any([is_worse(pair) for pair in listed])
        and all([pair in listed for pair in firsts])
        and all([after in listed for pair in listed for _, after in steps_alike(book, pair)])
    )
