"""The best mean: what seats must be lost in the long run if nobody parts a group, shown from both sides.

Whoever fills and the comers play against each other: at each view the filler does a deed that can be done, then the
comers choose among the views to which it can lead. A game is a dict that gives each view a dict of these deeds, each
with the list of these views.
"""

from fillchairs.beats import can_do
from fillchairs.errors import TooMany
from fillchairs.ratios import check_fraction, greatest_ratio, most_sums
from fillchairs.setups import check_setup, is_integer, is_number, is_tuple

MOST_VIEWS = 300

# Stands in the place of a view where the filler has given up.
GIVEN_UP = ()


def best_mean(setup):
    """Return the least mean to which the lost seats can be held against all comers, in lowest terms."""
    above, below, _, _ = best_play(setup)
    return above, below


def filler_paper(setup):
    """Return a filler paper for the best mean, ascending by views."""
    _, _, filler, _ = best_play(setup)
    return filler


def foe_paper(setup):
    """Return a foe paper for the best mean, ascending by views."""
    _, _, _, foe = best_play(setup)
    return foe


def filler_holds(setup, above, below, paper):
    """Return whether any object is a filler paper for above and below."""
    check_setup(setup)
    check_fraction(above, below)
    views_of(setup)
    if not isinstance(paper, list) or not all([is_filler_entry(setup, entry) for entry in paper]):
        return False
    numbers = {view: number for view, _, number in paper}
    if len(numbers) < len(paper) or not all([view in numbers for view in first_views(setup)]):
        return False
    return all([
        after in numbers and numbers[after] <= number - weight_of(view, deed, above, below)
        for view, deed, number in paper
        for after in choices(setup, view)[deed]
    ])


def foe_holds(setup, above, below, paper):
    """Return whether any object is a foe paper for above and below."""
    check_setup(setup)
    check_fraction(above, below)
    views_of(setup)
    if not isinstance(paper, list) or not all([is_foe_entry(setup, entry) for entry in paper]):
        return False
    numbers = {view: number for view, number, _ in paper}
    if len(numbers) < len(paper) or not any([view in numbers for view in first_views(setup)]):
        return False
    return all([
        after in numbers and numbers[after] >= number - weight_of(view, deed, above, below)
        for view, number, answers in paper
        for deed, after in answers
    ])


def views_of(setup):
    """Return the list of all views of the setup; raise TooMany if there are too many to look at."""
    seats, sizes, (most_groups, most_singles), _ = setup
    lines = [(0, 0)] + [(size, behind) for size in sizes for behind in range(most_groups)]
    views = [
        (turn, front, behind, singles, left)
        for turn in range(len(seats))
        for front, behind in lines
        for singles in range(most_singles + 1)
        for left in range(seats[turn] + 1)
    ]
    if len(views) > MOST_VIEWS:
        raise TooMany("too many views")
    return views


def is_view(setup, thing):
    """Return whether any object is a view of the setup."""
    if not is_tuple(thing, 5, 5):
        return False
    turn, front, behind, singles, left = thing
    return (
        is_number(turn, 0, len(setup[0]) - 1)
        and is_integer(front)
        and front in (0, *setup[1])
        and is_number(behind, 0, setup[2][0] - 1 if front else 0)
        and is_number(singles, 0, setup[2][1])
        and is_number(left, 0, setup[0][turn])
    )


def is_filler_entry(setup, thing):
    """Return whether any object is a tuple of a view, a deed that can be done there, and an integer."""
    return (
        is_tuple(thing, 3, 3)
        and is_view(setup, thing[0])
        and isinstance(thing[1], str)
        and thing[1] in choices(setup, thing[0])
        and is_integer(thing[2])
    )


def is_foe_entry(setup, thing):
    """Return whether any object is a tuple of a view, an integer, and an answer to each deed that can be done."""
    if not is_tuple(thing, 3, 3) or not is_view(setup, thing[0]) or not is_integer(thing[1]):
        return False
    chances = choices(setup, thing[0])
    return is_tuple(thing[2], len(chances), len(chances)) and all([
        is_answer(setup, deed, chances[deed], answer) for deed, answer in zip(chances, thing[2])
    ])


def is_answer(setup, deed, views, thing):
    """Return whether any object is a tuple of this deed and one of these views."""
    return (
        is_tuple(thing, 2, 2)
        and isinstance(thing[0], str)
        and thing[0] == deed
        and is_view(setup, thing[1])
        and thing[1] in views
    )


def first_views(setup):
    """Return the list of the opening views to which comers lead from the empty lines."""
    return openings(setup, 0, 0, 0, 0)


def choices(setup, view):
    """Return a dict of the deeds that can be done at a view, each with the list of the views after it."""
    turn, front, behind, singles, left = view
    found = {}
    if can_do("group", front, left, singles):
        fronts = setup[1] if behind else (0,)
        found["group"] = [(turn, size, max(0, behind - 1), singles, left - front) for size in fronts]
    if can_do("single", front, left, singles):
        found["single"] = [(turn, front, behind, singles - 1, left - 1)]
    found["go"] = openings(setup, (turn + 1) % len(setup[0]), front, behind, singles)
    return found


def openings(setup, turn, front, behind, singles):
    """Return the list of the opening views of a turn to which comers lead from these lines."""
    seats, sizes, (most_groups, most_singles), (more_groups, more_singles) = setup
    groups = behind + 1 if front else 0
    in_line = sorted({min(groups + more, most_groups) for more in range(more_groups + 1)})
    alone = sorted({min(singles + more, most_singles) for more in range(more_singles + 1)})
    return [
        (turn, size, max(0, waiting - 1), single, seats[turn])
        for waiting in in_line
        for size in (sizes if waiting and not front else (front,))
        for single in alone
    ]


def cost_of(view, deed):
    """Return (lost, beats): how many seats are lost by a deed at a view, and how many chairs go by it."""
    if deed != "go":
        return 0, 0
    _, front, _, singles, left = view
    return left if front or singles else 0, 1


def weight_of(view, deed, above, below):
    """Return how far what is lost by a deed at a view goes beyond the mean above / below, times below."""
    lost, beats = cost_of(view, deed)
    return below * lost - above * beats


def best_play(setup):
    """Return the best mean (above, below) with a filler paper and a foe paper for it."""
    check_setup(setup)
    game = {view: choices(setup, view) for view in views_of(setup)}
    firsts = first_views(setup)
    deeds = {view: "go" for view in game}
    while True:
        above, below, _, sums = greatest_ratio(graph_of(game, deeds, firsts))
        # Each time the comers can do less against the better deeds, until they keep the mean up from somewhere.
        deeds_below, foes = undercut(game, above, below)
        if any([view in foes for view in firsts]):
            filler = sorted([(view, deeds[view], sums[view]) for view in sums])
            return above, below, filler, foe_entries(game, above, below, foes)
        deeds = deeds_below


def graph_of(game, deeds, firsts):
    """Return the graph of the views to which comers lead if these deeds are done, with the costs of the steps."""
    graph = {}
    order = list(firsts)
    at = 0
    while at < len(order):
        view = order[at]
        if view not in graph:
            cost = cost_of(view, deeds[view])
            graph[view] = {after: cost for after in game[view][deeds[view]]}
            order.extend(graph[view])
        at += 1
    return graph


def undercut(game, above, below):
    """Return deeds, and a dict of the views at which they do not hold the lost seats below above / below.

    Each of these views stands there with a number such that the comers can answer each deed by one of these views
    whose number is not less than the view's, less the weight of the deed.
    """
    # Giving up costs more than any walk without a ring, so that the numbers tell where it cannot be avoided.
    price = 4 * len(game) * (above + 5 * below)
    deeds = {view: None for view in game}
    numbers = {view: price for view in game}
    better = better_deeds(game, above, below, deeds, numbers)
    # A deed is changed only for a lesser number. So rings of such deeds have weights that add up to less than 0, and
    # all numbers only fall, until no deed is better.
    while better != deeds:
        deeds = better
        numbers, _ = most_sums(weights_of(game, above, below, deeds, price))
        better = better_deeds(game, above, below, deeds, numbers)
    return deeds, {view: numbers[view] for view in game if 2 * numbers[view] > price}


def better_deeds(game, above, below, deeds, numbers):
    """Return the deeds, exchanged at each view where another one leads to a lesser number than the view has."""
    better = {}
    for view, chances in game.items():
        better[view] = deeds[view]
        least = numbers[view]
        for deed, afters in chances.items():
            number = weight_of(view, deed, above, below) + max([numbers[after] for after in afters])
            if max(0, number) < least:
                better[view] = deed
                least = max(0, number)
    return better


def weights_of(game, above, below, deeds, price):
    """Return the graph of the views with the weights of these deeds, the price where the filler has given up."""
    weights = {GIVEN_UP: {}}
    for view, deed in deeds.items():
        if deed is None:
            weights[view] = {GIVEN_UP: price}
        else:
            weight = weight_of(view, deed, above, below)
            weights[view] = {after: weight for after in game[view][deed]}
    return weights


def foe_entries(game, above, below, foes):
    """Return the foe paper of the views at which the comers can keep the mean up, the least number being 0."""
    least = min(foes.values())
    return sorted([
        (view, number - least, tuple([
            (deed, answer_to(view, afters, foes, weight_of(view, deed, above, below)))
            for deed, afters in game[view].items()
        ]))
        for view, number in foes.items()
    ])


def answer_to(view, afters, foes, weight):
    """Return a view by which the comers answer a deed with this weight, so that the number falls by no more."""
    return [after for after in afters if after in foes and foes[after] >= foes[view] - weight][0]
