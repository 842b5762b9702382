"""Rings and sums in a graph, and the fractions that they come to.

A graph is a dict that gives each node a dict of the nodes after it, with what it costs to go there.
"""

from math import gcd

from fillchairs.errors import BadFraction
from fillchairs.setups import is_integer


def check_fraction(above, below):
    """Raise BadFraction if the two objects are no integers from 0 and from 1 on."""
    if not is_integer(above) or not is_integer(below) or above < 0 or below < 1:
        raise BadFraction("not a fraction")


def greatest_ratio(graph):
    """Return the greatest ratio of a ring, with what shows it: (above, below, ring, sums).

    Each node has some node after it, with a tuple (lost, beats), and each ring has beats. The ratio above / below is
    in lowest terms; ring is a list of nodes that has it; sums gives each node the most to which
    below * lost - above * beats add up in a walk from it, perhaps of no step.
    """
    ring = ring_in({node: list(graph[node])[0] for node in graph})
    while True:
        above, below = ratio_of(graph, ring)
        weights = {
            node: {after: below * lost - above * beats for after, (lost, beats) in afters.items()}
            for node, afters in graph.items()
        }
        # A ring whose weights add up to more than 0 has a greater ratio.
        sums, better = most_sums(weights)
        if not better:
            return above, below, ring, sums
        ring = better


def ratio_of(graph, ring):
    """Return the ratio of what is lost to the beats in a ring, in lowest terms."""
    lost = 0
    beats = 0
    for node, after in around(ring):
        more_lost, more_beats = graph[node][after]
        lost += more_lost
        beats += more_beats
    shared = gcd(lost, beats)
    return lost // shared, beats // shared


def around(ring):
    """Return the list of all tuples (node, node after it) of a ring."""
    return list(zip(ring, ring[1:] + ring[:1]))


def most_sums(weights):
    """Return the most to which the weights add up in walks from each node, perhaps of no step, and [].

    If there is no most, a ring whose weights add up to more than 0 is returned in the place of [].
    """
    sums = {node: 0 for node in weights}
    onward = {node: None for node in weights}
    ring = []
    growing = True
    while growing and not ring:
        growing = grow(weights, sums, onward)
        ring = ring_in(onward)
    return sums, ring


def grow(weights, sums, onward):
    """Let each sum grow to what one step more makes of it; return whether one did.

    The node of that step is noted in onward. Since each sum is at most the weight and the sum of the step noted for
    it, and was less before the last one was noted, a ring of such steps has weights that add up to more than 0.
    """
    growing = False
    for node, afters in weights.items():
        for after, weight in afters.items():
            if weight + sums[after] > sums[node]:
                sums[node] = weight + sums[after]
                onward[node] = after
                growing = True
    return growing


def ring_in(onward):
    """Return a ring of nodes, each the one noted for the node before it, [] if there is none."""
    passed = {}
    for first in onward:
        node = first
        while node is not None and node not in passed:
            passed[node] = first
            node = onward[node]
        if node is not None and passed[node] == first:
            return ring_from(onward, node)
    return []


def ring_from(onward, first):
    """Return the ring of nodes in which a node stands."""
    ring = [first]
    while onward[ring[-1]] != first:
        ring.append(onward[ring[-1]])
    return ring
