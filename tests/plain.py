"""What the tests share: a second, plain telling of beats, and setups and rules to try."""

import random

WIDE = (0, 9)

EXAMPLE_SETUP = ((2,), (1, 2), (2, 2), (2, 1))
EXAMPLE_RULE = (
    (0, (1, 2), (0, 9), (0, 9), "group", 0),
    (0, (0, 9), (0, 9), (1, 9), "single", 0),
)


def always(deed, mood=0, after=0):
    """A row of a rule that fits whenever its deed can be done."""
    return (mood, WIDE, WIDE, WIDE, deed, after)


class Plain:
    """Beats as the document tells them, step by step, on lists that change."""

    def __init__(self, setup, rule):
        self.seats, self.sizes, self.rooms, self.coming = setup
        self.rule = rule
        self.turn = 0
        self.line = []
        self.singles = 0
        self.mood = 0

    def state(self):
        return (self.turn, tuple(self.line), self.singles, self.mood)

    def beat(self, comers):
        away_groups = away_singles = 0
        for size in comers[0]:
            if len(self.line) < self.rooms[0]:
                self.line.append(size)
            else:
                away_groups += 1
        for _ in range(comers[1]):
            if self.singles < self.rooms[1]:
                self.singles += 1
            else:
                away_singles += 1
        deeds, empty = self.fill(self.seats[self.turn])
        self.turn += 1
        if self.turn == len(self.seats):
            self.turn = 0
        lost = empty if self.line or self.singles else 0
        return (tuple(deeds), empty, lost, (away_groups, away_singles))

    def fill(self, left):
        deeds = []
        while True:
            front = self.line[0] if self.line else 0
            possible = {
                "group": front != 0 and front <= left,
                "single": self.singles != 0 and left != 0,
                "part": front > left and left != 0,
                "go": True,
            }
            fitting = [
                row
                for row in self.rule
                if row[0] == self.mood
                and front in range(row[1][0], row[1][1] + 1)
                and left in range(row[2][0], row[2][1] + 1)
                and self.singles in range(row[3][0], row[3][1] + 1)
                and possible[row[4]]
            ]
            if not fitting:
                return deeds, left
            _, _, _, _, deed, self.mood = fitting[0]
            if deed == "go":
                return deeds, left
            if deed == "group":
                deeds.append(("group", self.line.pop(0)))
                left -= front
            elif deed == "single":
                deeds.append(("single", 1))
                self.singles -= 1
                left -= 1
            else:
                deeds.append(("part", left))
                self.line[0] -= left
                left = 0


def plain_chairs(setup, rule, row):
    """The chairs of a row and the state after it, by the plain telling."""
    plain = Plain(setup, rule)
    return [plain.beat(comers) for comers in row], plain.state()


def plain_comers(setup):
    """All comers of a setup, by counting them out."""
    sizes, most_groups, most_singles = setup[1], setup[3][0], setup[3][1]
    lines = [()]
    if most_groups >= 1:
        lines += [(size,) for size in sizes]
    if most_groups == 2:
        lines += [(first, second) for first in sizes for second in sizes]
    comers = []
    for line in lines:
        for singles in range(most_singles + 1):
            comers.append((line, singles))
    comers.sort()
    return comers


def some_setup(dice):
    """A setup by dice."""
    return (
        tuple(dice.randint(1, 5) for _ in range(dice.randint(1, 2))),
        tuple(sorted(dice.sample(range(1, 6), dice.randint(1, 3)))),
        (dice.randint(1, 3), dice.randint(0, 4)),
        (dice.randint(0, 2), dice.randint(0, 2)),
    )


def small_setup(dice, groups, singles):
    """A setup by dice with few states, at most so many groups and singles coming at a beat."""
    return (
        tuple(dice.randint(1, 4) for _ in range(dice.randint(1, 2))),
        tuple(sorted(dice.sample(range(1, 6), dice.randint(1, 2)))),
        (dice.randint(1, 2), dice.randint(0, 2)),
        (dice.randint(0, groups), dice.randint(0, singles)),
    )


def some_rule(dice):
    """A rule by dice, whose ranges are wide more often than not."""

    def span(most):
        if dice.random() < 0.5:
            return WIDE
        return tuple(sorted((dice.randint(0, most), dice.randint(0, 9))))

    return tuple(
        (
            dice.randint(0, 2) if dice.random() < 0.5 else 0,
            span(3),
            span(3),
            span(2),
            dice.choice(("group", "group", "single", "single", "part", "go")),
            dice.randint(0, 2) if dice.random() < 0.5 else 0,
        )
        for _ in range(dice.randint(0, 8))
    )


def busy_rule(dice):
    """A rule by dice that seats somebody more often than not, and whose moods come up."""
    rows = list(some_rule(dice)[:4])
    for mood in range(3):
        deeds = dice.sample(("group", "single", "part"), 3)
        rows += [always(deed, mood, dice.choice((0, mood))) for deed in deeds[: dice.randint(0, 2)]]
    return tuple(rows[:8])


def some_row(dice, setup, beats):
    """A row of comers by dice."""
    comers = plain_comers(setup)
    return [dice.choice(comers) for _ in range(beats)]


def like(dice, rule):
    """A rule by dice that is somehow like another one."""
    choice = dice.random()
    if choice < 0.25:
        return rule
    if choice < 0.5 and rule:
        at = dice.randrange(len(rule))
        return rule[:at] + some_rule(dice)[:1] + rule[at + 1 :]
    if choice < 0.75:
        return rule[:-1]
    return busy_rule(dice)


def some_cases(seed, many, beats):
    """Many (setup, rule, row), the same for the same seed."""
    dice = random.Random(seed)
    cases = []
    for _ in range(many):
        setup = some_setup(dice)
        cases.append((setup, some_rule(dice), some_row(dice, setup, beats)))
    return cases
