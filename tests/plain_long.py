"""Second, plain tellings for endless rows: graphs of states, their means, places of those who wait, and the game."""

from fractions import Fraction
from itertools import product

from tests.plain import Plain, plain_comers

FIRST = (0, (), 0, 0)
WHOS = ("group", "single")


def plain_beat(setup, rule, state, comers):
    """The chair of a beat and the state after it."""
    plain = Plain(setup, rule)
    plain.turn, line, plain.singles, plain.mood = state
    plain.line = list(line)
    chair = plain.beat(comers)
    return chair, plain.state()


def plain_graph(setup, rule):
    """For each state after rows, nearer ones first: for all comers the chair and the state after it."""
    coming = plain_comers(setup)
    graph = {}
    last = [FIRST]
    while last:
        for state in last:
            graph[state] = {comers: plain_beat(setup, rule, state, comers) for comers in coming}
        after = [after for state in last for _, after in graph[state].values()]
        last = [state for state in dict.fromkeys(after) if state not in graph]
    return graph


def plain_standing(state):
    """The standing of a state."""
    turn, line, singles, mood = state
    if line:
        return (turn, line[0], len(line) - 1, singles, mood)
    return (turn, 0, 0, singles, mood)


def every_standing(setup):
    """All standings of states of a setup, whether rows lead to them or not."""
    fronts = [(0, 0)] + [(front, behind) for front in range(1, 6) for behind in range(setup[2][0])]
    return [
        (turn, front, behind, singles, mood)
        for turn in range(len(setup[0]))
        for front, behind in fronts
        for singles in range(setup[2][1] + 1)
        for mood in range(3)
    ]


def plain_states_with(setup, standing):
    """All states with a standing, the groups behind the front having sizes of the setup."""
    turn, front, behind, singles, mood = standing
    if front == 0:
        return [(turn, (), singles, mood)]
    return [(turn, (front, *line), singles, mood) for line in product(setup[1], repeat=behind)]


def plain_moves(setup, rule, standing):
    """The moves of a standing, by all its states and all comers."""
    found = set()
    for state in plain_states_with(setup, standing):
        for comers in plain_comers(setup):
            chair, after = plain_beat(setup, rule, state, comers)
            found.add((chair[2], plain_standing(after)))
    return sorted(found)


def lost_edges(graph):
    """For each state the states after it, with the most seats that are lost on the way."""
    edges = {}
    for state, ways in graph.items():
        edges[state] = {}
        for chair, after in ways.values():
            edges[state][after] = max(chair[2], edges[state].get(after, 0))
    return edges


def mean_by_walks(edges, first):
    """The greatest mean of a ring that can be reached, by the walks of each length (after Karp)."""
    many = len(edges)
    walks = [{first: 0}]
    for _ in range(many):
        longer = {}
        for node, lost in walks[-1].items():
            for after, more in edges[node].items():
                longer[after] = max(lost + more, longer.get(after, -1))
        walks.append(longer)
    return max(
        min(Fraction(lost - walk[node], many - beats) for beats, walk in enumerate(walks[:-1]) if node in walk)
        for node, lost in walks[-1].items()
    )


def mean_by_rings(edges):
    """The greatest mean of all simple rings."""
    order = {node: at for at, node in enumerate(edges)}
    best = []

    def follow(first, node, passed, lost):
        for after, more in edges[node].items():
            if after == first:
                best.append(Fraction(lost + more, len(passed)))
            elif order[after] > order[first] and after not in passed:
                follow(first, after, passed | {after}, lost + more)

    for first in edges:
        follow(first, first, {first}, 0)
    return max(best)


def most_by_walks(edges, above, below):
    """For each node the most to which below * lost - above add up in a walk with at most as many steps as nodes."""
    sums = dict.fromkeys(edges, 0)
    for _ in edges:
        sums = {
            node: max([0] + [below * lost - above + sums[after] for after, lost in afters.items()])
            for node, afters in edges.items()
        }
    return sums


def plain_waits(setup, rule, row, who):
    """For each group or each single that is let in, in order: its wait, None if it does not sit in the row."""
    plain = Plain(setup, rule)
    waits = []
    standing_in_line = []
    for comers in row:
        deeds, _, _, away = plain.beat(comers)
        coming = len(comers[0]) - away[0] if who == "group" else comers[1] - away[1]
        for _ in range(coming):
            standing_in_line.append(len(waits))
            waits.append([0, False])
        for deed, _ in deeds:
            if deed == who:
                waits[standing_in_line.pop(0)][1] = True
        for number in standing_in_line:
            waits[number][0] += 1
    return [wait if sits else None for wait, sits in waits]


def count(state, who):
    return len(state[1]) if who == "group" else state[2]


def seated(chair, who):
    return len([name for name, _ in chair[0] if name == who])


def places_after(graph, state, who):
    """The places (state, ahead) of those who come at a beat after this state and wait after the beat."""
    found = []
    for comers, (chair, after) in graph[state].items():
        coming = len(comers[0]) - chair[3][0] if who == "group" else comers[1] - chair[3][1]
        before = count(state, who)
        aheads = [ahead - seated(chair, who) for ahead in range(before, before + coming)]
        found += [(after, ahead) for ahead in aheads if ahead >= 0]
    return found


def place_graph(graph, who):
    """The places (state, ahead) at which somebody waits who has just come, and for all places those after them."""
    firsts = [place for state in graph for place in places_after(graph, state, who)]
    places = {}
    last = list(dict.fromkeys(firsts))
    firsts = set(firsts)
    while last:
        for place in last:
            state, ahead = place
            places[place] = {
                (after, ahead - seated(chair, who))
                for chair, after in graph[state].values()
                if seated(chair, who) <= ahead
            }
        after = [after for place in last for after in places[place]]
        last = [place for place in dict.fromkeys(after) if place not in places]
    return firsts, places


def further_waits(places):
    """For each place the most chairs that yet go without the one there, None if there is no most anywhere."""
    numbers = dict.fromkeys(places, 0)
    for _ in range(len(places) + 1):
        longer = {place: max([0] + [1 + numbers[after] for after in places[place]]) for place in places}
        if longer == numbers:
            return numbers
        numbers = longer
    return None


def plain_views(setup):
    """All views of a setup."""
    seats, sizes, (groups, singles), _ = setup
    views = []
    for turn, whole in enumerate(seats):
        for left in range(whole + 1):
            for alone in range(singles + 1):
                views.append((turn, 0, 0, alone, left))
                views += [(turn, front, behind, alone, left) for front in sizes for behind in range(groups)]
    return sorted(views)


def plain_openings(setup, turn, line, singles):
    """The opening views after comers, the line being [] or [size in front, None, None ..]."""
    found = set()
    for groups in range(setup[3][0] + 1):
        for more in range(setup[3][1] + 1):
            longer = (line + [None] * groups)[: setup[2][0]]
            alone = min(setup[2][1], singles + more)
            if not longer:
                found.add((turn, 0, 0, alone, setup[0][turn]))
            else:
                for front in setup[1] if longer[0] is None else longer[:1]:
                    found.add((turn, front, len(longer) - 1, alone, setup[0][turn]))
    return found


def plain_choices(setup, view):
    """For each deed that can be done at a view the views after it, and what is lost by it."""
    turn, front, behind, singles, left = view
    found = {}
    if front and front <= left:
        sizes = setup[1] if behind else [0]
        found["group"] = {(turn, size, behind - 1 if behind else 0, singles, left - front) for size in sizes}, 0
    if singles and left:
        found["single"] = {(turn, front, behind, singles - 1, left - 1)}, 0
    line = [front] + [None] * behind if front else []
    lost = left if line or singles else 0
    found["go"] = plain_openings(setup, (turn + 1) % len(setup[0]), line, singles), lost
    return found


def is_filler_paper(setup, above, below, paper):
    """Whether a list of (view, deed, number) is a filler paper, by the words of the document."""
    views = plain_views(setup)
    numbers = {view: number for view, _, number in paper}
    right = len(numbers) == len(paper) and all(view in views for view in numbers)
    right = right and all(view in numbers for view in plain_openings(setup, 0, [], 0))
    for view, deed, number in paper:
        if right:
            afters, lost = plain_choices(setup, view).get(deed, ({None}, 0))
            bound = number - (below * lost - above if deed == "go" else 0)
            right = all(after in numbers and numbers[after] <= bound for after in afters)
    return right


def is_foe_paper(setup, above, below, paper):
    """Whether a list of (view, number, answers) is a foe paper, by the words of the document."""
    views = plain_views(setup)
    numbers = {view: number for view, number, _ in paper}
    right = len(numbers) == len(paper) and all(view in views for view in numbers)
    right = right and any(view in numbers for view in plain_openings(setup, 0, [], 0))
    for view, number, answers in paper:
        if right:
            choices = plain_choices(setup, view)
            right = [deed for deed, _ in answers] == list(choices)
        if right:
            for deed, after in answers:
                afters, lost = choices[deed]
                bound = number - (below * lost - above if deed == "go" else 0)
                right = right and after in afters and after in numbers and numbers[after] >= bound
    return right


def best_by_trying(setup, most):
    """The best mean, by all ways to do one deed at each view; None if there are more than so many of them."""
    choices = {view: plain_choices(setup, view) for view in plain_views(setup)}
    many = 1
    for chances in choices.values():
        many *= len(chances)
    if many > most:
        return None
    views = list(choices)
    means = []
    for deeds in product(*[choices[view] for view in views]):
        way = dict(zip(views, deeds))
        starts = plain_openings(setup, 0, [], 0)
        # One step of this graph is a whole chair.
        edges = {None: dict.fromkeys(starts, 0)}
        last = list(starts)
        while last:
            view = last.pop()
            if view not in edges:
                edges[view] = chair_by(choices, way, view)
                last += edges[view]
        means.append(mean_by_walks(edges, None))
    return min(means)


def chair_by(choices, way, view):
    """The opening views after a chair that is filled in one way, each with the most seats that are lost."""
    found = {}
    last = [view]
    while last:
        at = last.pop()
        afters, lost = choices[at][way[at]]
        if way[at] == "go":
            for after in afters:
                found[after] = max(lost, found.get(after, 0))
        else:
            last += afters
    return found
