"""Setups, rules and the comers of a beat: what counts as one, and which comers there are."""

from fillchairs.errors import BadRule, BadSetup

DEEDS = ("group", "single", "part", "go")
MOST_ROWS = 8


def is_setup(thing):
    """Return whether any object is a setup."""
    if not is_tuple(thing, 4, 4):
        return False
    seats, sizes, rooms, comers = thing
    return (
        is_tuple(seats, 1, 2)
        and are_numbers(seats, 1, 5)
        and are_sizes(sizes)
        and is_pair(rooms, 1, 3, 4)
        and is_pair(comers, 0, 2, 2)
    )


def is_rule(thing):
    """Return whether any object is a rule."""
    return is_tuple(thing, 0, MOST_ROWS) and all([is_rule_row(row) for row in thing])


def all_comers(setup):
    """Return the ascending list of all comers that a beat of the setup can have."""
    check_setup(setup)
    sizes = setup[1]
    most_groups, most_singles = setup[3]
    lines = [()]
    longest = [()]
    for _ in range(most_groups):
        longest = [(*line, size) for line in longest for size in sizes]
        lines.extend(longest)
    return sorted([(line, singles) for line in lines for singles in range(most_singles + 1)])


def is_comers(setup, thing):
    """Return whether any object is the comers of a beat of a setup that is one."""
    if not is_tuple(thing, 2, 2):
        return False
    groups, singles = thing
    most_groups, most_singles = setup[3]
    return (
        is_tuple(groups, 0, most_groups)
        and all([is_integer(size) and size in setup[1] for size in groups])
        and is_number(singles, 0, most_singles)
    )


def check_setup(thing):
    """Raise BadSetup if the object is no setup."""
    if not is_setup(thing):
        raise BadSetup("not a setup")


def check_rule(thing):
    """Raise BadRule if the object is no rule."""
    if not is_rule(thing):
        raise BadRule("not a rule")


def is_integer(thing):
    """Return whether any object is an integer."""
    # True and False are ints to Python, but stand for no integer here.
    return isinstance(thing, int) and not isinstance(thing, bool)


def is_number(thing, low, high):
    """Return whether any object is an integer from low to high."""
    return is_integer(thing) and low <= thing <= high


def are_numbers(things, low, high):
    """Return whether all entries of a tuple are integers from low to high."""
    return all([is_number(thing, low, high) for thing in things])


def is_tuple(thing, fewest, most):
    """Return whether any object is a tuple with so many entries."""
    return isinstance(thing, tuple) and fewest <= len(thing) <= most


def are_sizes(thing):
    """Return whether any object is the sizes of a setup."""
    return (
        is_tuple(thing, 1, 3)
        and are_numbers(thing, 1, 5)
        and all([low < high for low, high in zip(thing, thing[1:])])
    )


def is_pair(thing, fewest_groups, most_groups, most_singles):
    """Return whether any object is a tuple of how many groups and how many singles."""
    return (
        is_tuple(thing, 2, 2)
        and is_number(thing[0], fewest_groups, most_groups)
        and is_number(thing[1], 0, most_singles)
    )


def is_span(thing):
    """Return whether any object is a range (low, high) of a row of a rule."""
    return is_tuple(thing, 2, 2) and are_numbers(thing, 0, 9) and thing[0] <= thing[1]


def is_rule_row(thing):
    """Return whether any object is a row of a rule."""
    if not is_tuple(thing, 6, 6):
        return False
    mood, front, left, waiting, deed, after = thing
    return (
        is_number(mood, 0, 2)
        and is_span(front)
        and is_span(left)
        and is_span(waiting)
        and isinstance(deed, str)
        and deed in DEEDS
        and is_number(after, 0, 2)
    )
