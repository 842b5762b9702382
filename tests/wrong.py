"""Objects of many kinds, none of which is what a function of the package asks for."""

NO_LISTS = (
    None,
    True,
    False,
    0,
    3,
    -1,
    10**59,
    "",
    "14+1",
    b"",
    (),
    ((), 0),
    ((((), 0),),),
    {},
    {0: ((), 0)},
    set(),
    frozenset(),
    range(0),
    iter([]),
    object(),
    list,
    len,
)

NO_TUPLES = (None, True, 0, 7, "", "ab", b"ab", [], [0, 0], {}, {0: 1}, set(), range(5), object(), tuple)

NO_INTEGERS = (None, True, False, "", "1", b"1", (), (1,), [], [1], {}, object(), int)

NO_SETUPS = (
    None,
    True,
    0,
    (),
    [],
    "setup",
    [(2,), (1, 2), (2, 2), (2, 1)],
    ((2,), (1, 2), (2, 2)),
    ((2,), (2, 1), (2, 2), (2, 1)),
    ((2,), (1, 2), (2, 5), (2, 1)),
    ((2,), (1, 2), (2, 2), (2, True)),
    ([2], (1, 2), (2, 2), (2, 1)),
)

NO_RULES = (
    None,
    False,
    0,
    [],
    "go",
    (None,),
    (0, (0, 9), (0, 9), (0, 9), "go", 0),
    [(0, (0, 9), (0, 9), (0, 9), "go", 0)],
    ((0, (0, 9), (0, 9), (0, 9), "go", 0),) * 9,
    ((0, (0, 9), (0, 9), (0, 9), "wait", 0),),
    ((False, (0, 9), (0, 9), (0, 9), "go", 0),),
)

# Each a tuple (above, below).
NO_FRACTIONS = (
    (-1, 1),
    (0, 0),
    (1, 0),
    (1, -1),
    (-1, -1),
    (-(10**59), 1),
    (1, -(10**59)),
    (True, 1),
    (False, 1),
    (1, True),
    (0, False),
    ("1", 1),
    (1, "1"),
    ("", ""),
    (None, 1),
    (1, None),
    (None, None),
    ((1, 2), 1),
    (1, (1, 2)),
    ([1], 1),
    (1, [1]),
    (b"1", 1),
    (object(), object()),
)

NO_WHOS = (
    None,
    True,
    0,
    1,
    "",
    "groups",
    "Group",
    "GROUP",
    "singles",
    "part",
    "go",
    " group",
    "group ",
    "group\n",
    b"group",
    ("group",),
    ["group"],
    {"group": 1},
    object(),
    str,
)
