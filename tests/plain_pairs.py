"""Second, plain tellings of pairs of states: one single more, two rules side by side, and what is seen of chairs."""

from itertools import product

from tests.plain import plain_chairs, plain_comers
from tests.plain_long import FIRST, plain_beat, plain_graph

CALM = (0, 0)


def with_one_more(row, place):
    """The row with one single more at a beat."""
    groups, singles = row[place]
    return row[:place] + [(groups, singles + 1)] + row[place + 1 :]


def is_calm(chairs):
    """Whether nobody is turned away."""
    return all(chair[3] == CALM for chair in chairs)


def plain_more(setup, rule):
    """(starts, pairs): pairs after a beat with one single more, and all pairs by rows, nobody being turned away.

    With each pair stands the least number of beats that lead to it.
    """
    beats = {state: calm(ways) for state, ways in plain_graph(setup, rule).items()}
    alone = closure({FIRST}, lambda state: beats[state].values())
    starts = {}
    for state, far in alone.items():
        for (groups, singles), after in beats[state].items():
            if (groups, singles + 1) in beats[state]:
                pair = (after, beats[state][groups, singles + 1])
                starts[pair] = min(far + 1, starts.get(pair, far + 1))
    pairs = dict(starts)
    growing = True
    while growing:
        growing = False
        for pair, far in list(pairs.items()):
            for after in pairs_after(beats, pair):
                if pairs.get(after, far + 2) > far + 1:
                    pairs[after] = far + 1
                    growing = True
    return starts, pairs


def calm(ways):
    """The comers by which nobody is turned away, with the states after them."""
    return {comers: after for comers, (chair, after) in ways.items() if chair[3] == CALM}


def pairs_after(beats, pair):
    """The pairs after a beat of equal comers by which nobody is turned away in either row."""
    state, other = pair
    return {(beats[state][comers], beats[other][comers]) for comers in beats[state] if comers in beats[other]}


def closure(firsts, afters_of):
    """All things to which the first ones lead, with the least number of steps."""
    steps = dict.fromkeys(firsts, 0)
    last = list(firsts)
    while last:
        fresh = []
        for thing in last:
            for after in afters_of(thing):
                if after not in steps:
                    steps[after] = steps[thing] + 1
                    fresh.append(after)
        last = fresh
    return steps


def more_by_rows(setup, rule, most):
    """All pairs after two rows of at most so many beats told apart by one single more, by trying all rows."""
    comers = plain_comers(setup)
    pairs = set()
    for beats in range(1, most + 1):
        for row in product(comers, repeat=beats):
            chairs, state = plain_chairs(setup, rule, row)
            for place in range(beats):
                other = with_one_more(list(row), place)
                if other[place] in comers and is_calm(chairs):
                    other_chairs, other_state = plain_chairs(setup, rule, other)
                    if is_calm(other_chairs):
                        pairs.add((state, other_state))
    return pairs


class Both:
    """Two rules side by side, by the beats of all their states."""

    def __init__(self, setup, rule, other):
        self.graphs = (plain_graph(setup, rule), plain_graph(setup, other))

    def beats(self, pair):
        """For each comers the chairs of both rules and the pair after the beat."""
        ways, other_ways = self.graphs[0][pair[0]], self.graphs[1][pair[1]]
        return {
            comers: (ways[comers][0], other_ways[comers][0], (ways[comers][1], other_ways[comers][1]))
            for comers in ways
        }

    def pairs(self):
        """All pairs after rows, with the least number of beats that lead there."""
        return closure({(FIRST, FIRST)}, lambda pair: [after for _, _, after in self.beats(pair).values()])

    def unlike_after(self):
        """The number of beats of a shortest row with unlike chairs, None if there is none."""
        far = [
            beats + 1
            for pair, beats in self.pairs().items()
            if any(chair != other for chair, other, _ in self.beats(pair).values())
        ]
        return min(far, default=None)

    def gaps(self):
        """For each pair the most that the gap can still grow by, None if there is no most anywhere."""
        pairs = self.pairs()
        steps = {
            pair: [(chair[2] - other[2], after) for chair, other, after in self.beats(pair).values()] for pair in pairs
        }
        numbers = dict.fromkeys(pairs, 0)
        for _ in range(len(pairs) + 1):
            longer = {pair: max([0] + [gap + numbers[after] for gap, after in steps[pair]]) for pair in pairs}
            if longer == numbers:
                return numbers
            numbers = longer
        return None


def is_gap_list(setup, rule, other, paper):
    """Whether a list of (state, other, number) bounds the gap, by the words of the document."""
    numbers = {(state, other_state): number for state, other_state, number in paper}
    right = len(numbers) == len(paper) and (FIRST, FIRST) in numbers and min(numbers.values()) >= 0
    for (state, other_state), number in numbers.items():
        for comers in plain_comers(setup):
            chair, after = plain_beat(setup, rule, state, comers)
            other_chair, other_after = plain_beat(setup, other, other_state, comers)
            gap = chair[2] - other_chair[2]
            right = right and numbers.get((after, other_after), number + 9) <= number - gap
    return right


def seen_of(chairs):
    """What is seen of chairs."""
    return tuple(chair[:2] for chair in chairs)


def rows_by_seen(setup, rule, beats):
    """All rows of so many beats, by what is seen of their chairs."""
    found = {}
    for row in product(plain_comers(setup), repeat=beats):
        chairs, state = plain_chairs(setup, rule, row)
        found.setdefault(seen_of(chairs), []).append((list(row), chairs, state))
    return found


def sizes_let_in(row, chairs):
    """The sizes of the groups that are let in, in order."""
    sizes = ()
    for (groups, _), chair in zip(row, chairs):
        sizes += groups[: len(groups) - chair[3][0]]
    return sizes


def crowds_after(graph, crowd):
    """For all that can be seen of a chair the states in which one may be after it."""
    found = {}
    for state in crowd:
        for chair, after in graph[state].values():
            found.setdefault(chair[:2], set()).add(after)
    return {seen: frozenset(states) for seen, states in found.items()}


def plain_within(setup, rule, other):
    """(pairs, short): pairs (state, set of states), and how many chairs the other rule cannot show, None if all."""
    graph, other_graph = plain_graph(setup, rule), plain_graph(setup, other)
    known = {}

    def afters(pair):
        state, crowd = pair
        if crowd not in known:
            known[crowd] = crowds_after(other_graph, crowd)
        found = [(after, known[crowd].get(chair[:2], frozenset())) for chair, after in graph[state].values()]
        return found if crowd else []

    pairs = closure({(FIRST, frozenset({FIRST}))}, afters)
    short = min([far for (_, crowd), far in pairs.items() if not crowd], default=None)
    return {pair for pair in pairs if pair[1]}, short
