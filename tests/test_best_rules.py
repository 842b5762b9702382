import itertools
import random
import unittest
from fractions import Fraction

from fillchairs.ahead import best_order, best_rules, foes_of
from fillchairs.errors import BadRule, BadSetup, TooMany
from fillchairs.means import ring_holds
from tests.plain import EXAMPLE_RULE, EXAMPLE_SETUP, always, busy_rule, plain_chairs, small_setup, some_rule
from tests.plain_long import FIRST, lost_edges, mean_by_walks, plain_graph
from tests.wrong import NO_LISTS, NO_RULES, NO_SETUPS

GROUPS = (always("group"), always("single"))
SINGLES = (always("single"), always("group"))


def plain_mean(setup, rule):
    return mean_by_walks(lost_edges(plain_graph(setup, rule)), FIRST)


def mean_of_ring(setup, rule, ring):
    """The seats lost in a round of a ring, divided by its beats."""
    ahead, again = ring
    chairs, _ = plain_chairs(setup, rule, ahead + again)
    return Fraction(sum(chair[2] for chair in chairs[len(ahead) :]), len(again))


def some_rules(dice):
    """One to eight rules, equal ones among them now and then."""
    rules = [dice.choice((busy_rule, some_rule))(dice) for _ in range(dice.randint(1, 8))]
    return [dice.choice(rules) if dice.random() < 0.2 else rule for rule in rules]


class TestBestRules(unittest.TestCase):
    def test_told_by_hand(self):
        self.assertEqual(best_rules(EXAMPLE_SETUP, [EXAMPLE_RULE]), (1, 2, [0]))
        self.assertEqual(best_rules(EXAMPLE_SETUP, [()]), (2, 1, [0]))
        self.assertEqual(best_rules(EXAMPLE_SETUP, [(), EXAMPLE_RULE, (), EXAMPLE_RULE]), (1, 2, [1, 3]))
        self.assertEqual(best_rules(EXAMPLE_SETUP, [()] * 8), (2, 1, list(range(8))))

    def test_against_plain_means(self):
        dice = random.Random(371)
        for _ in range(60):
            setup, rules = small_setup(dice, 1, 1), some_rules(dice)
            means = [plain_mean(setup, rule) for rule in rules]
            above, below, places = best_rules(setup, rules)
            self.assertEqual(Fraction(above, below), min(means))
            self.assertEqual((above, below), min(means).as_integer_ratio())
            self.assertEqual(places, [place for place, mean in enumerate(means) if mean == min(means)])

    def test_kinds(self):
        answer = best_rules(EXAMPLE_SETUP, [EXAMPLE_RULE, ()])
        self.assertIs(type(answer), tuple)
        self.assertEqual([type(part) for part in answer], [int, int, list])

    def test_what_is_no_list_of_rules(self):
        for call in (best_rules, foes_of):
            for rules in (*NO_LISTS, [], [()] * 9, (EXAMPLE_RULE,), EXAMPLE_RULE, {0: ()}, [EXAMPLE_RULE] * 20):
                with self.assertRaises(BadRule):
                    call(EXAMPLE_SETUP, rules)
            for wrong in NO_RULES:
                for rules in ([wrong], [(), wrong], [wrong, ()], [()] * 7 + [wrong]):
                    with self.assertRaises(BadRule):
                        call(EXAMPLE_SETUP, rules)
            for wrong in NO_SETUPS:
                with self.assertRaises(BadSetup):
                    call(wrong, None)


class TestFoes(unittest.TestCase):
    def test_told_by_hand(self):
        self.assertEqual(foes_of(EXAMPLE_SETUP, [()]), [None])
        first, second, third = foes_of(EXAMPLE_SETUP, [EXAMPLE_RULE, (), EXAMPLE_RULE])
        self.assertEqual((first, third), (None, None))
        self.assertTrue(ring_holds(EXAMPLE_SETUP, (), 2, 1, second))

    def test_rings_with_a_greater_mean(self):
        dice = random.Random(372)
        rings = 0
        for _ in range(60):
            setup, rules = small_setup(dice, 1, 1), some_rules(dice)
            above, below, places = best_rules(setup, rules)
            foes = foes_of(setup, rules)
            self.assertIs(type(foes), list)
            self.assertEqual(len(foes), len(rules))
            for place, (rule, foe) in enumerate(zip(rules, foes)):
                self.assertEqual(foe is None, place in places)
                if foe is not None:
                    rings += 1
                    self.assertEqual([type(part) for part in foe], [list, list])
                    mean = mean_of_ring(setup, rule, foe)
                    self.assertGreater(mean, Fraction(above, below))
                    self.assertTrue(ring_holds(setup, rule, mean.numerator, mean.denominator, foe))
        self.assertGreater(rings, 20)


class TestBestOrder(unittest.TestCase):
    def test_told_by_hand(self):
        self.assertEqual(best_order(EXAMPLE_SETUP, ()), (2, 1, [()]))
        self.assertEqual(best_order(EXAMPLE_SETUP, GROUPS), (1, 2, [GROUPS]))
        self.assertEqual(best_order(EXAMPLE_SETUP, SINGLES), (1, 2, [GROUPS]))

    def test_equal_rows(self):
        rule = (always("group"),) * 3
        self.assertEqual(best_order(EXAMPLE_SETUP, rule)[2], [rule])
        rule = (always("group"), always("group"), always("single"))
        above, below, rules = best_order(EXAMPLE_SETUP, rule)
        self.assertEqual(len(rules), len(set(rules)))
        self.assertTrue(set(rules) <= set(itertools.permutations(rule)))

    def test_against_all_orders(self):
        dice = random.Random(373)
        many = set()
        for _ in range(50):
            setup, rule = small_setup(dice, 1, 1), busy_rule(dice)[: dice.randint(0, 4)]
            if dice.random() < 0.3 and rule:
                rule = (rule * 2)[:4]
            means = {order: plain_mean(setup, order) for order in itertools.permutations(rule)}
            least = min(means.values())
            answer = best_order(setup, rule)
            self.assertEqual(answer, (
                *least.as_integer_ratio(),
                sorted(order for order, mean in means.items() if mean == least),
            ))
            self.assertEqual([type(part) for part in answer], [int, int, list])
            many.add(len(rule))
            # All orders have the same answer.
            self.assertEqual(best_order(setup, rule[::-1]), answer)
        self.assertEqual(many, {0, 1, 2, 3, 4})

    def test_four_and_five_rows(self):
        row = always("group")
        self.assertEqual(best_order(EXAMPLE_SETUP, (row,) * 4)[2], [(row,) * 4])
        for rows in (5, 6, 7, 8):
            with self.assertRaises(TooMany):
                best_order(EXAMPLE_SETUP, (row,) * rows)

    def test_wrong_rules_and_setups(self):
        for wrong in NO_RULES:
            with self.assertRaises(BadRule):
                best_order(EXAMPLE_SETUP, wrong)
        for wrong in NO_SETUPS:
            with self.assertRaises(BadSetup):
                best_order(wrong, (always("group"),) * 5)


if __name__ == "__main__":
    unittest.main()
