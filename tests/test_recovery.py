"""Promises b4, b5 and b6, and c1 for them."""
import copy
import random
import unittest
from itertools import product

from faultdue import recovery as module
from faultdue.recovery import bound_of, prices_of, worst
from tests.helpers import assignments, fits, line_up, put, small_budgets, some_budgets

EXAMPLE = (("all", 3, -1), ("disk", 2, 0))
TREE = (("all", 9, -1), ("disk", 4, 0), ("net", 5, 0), ("near", 3, 2), ("spare", 2, -1), ("far", 2, 2))


def recovery(penalties, faults):
    return sum(penalty * count for penalty, count in zip(penalties, faults))


def told_assignment(budgets, penalties):
    """The assignment of b4, fault by fault."""
    faults = (0,) * len(budgets)
    order = sorted((-penalty, k) for k, penalty in enumerate(penalties) if penalty > 0)
    for _, k in order:
        while fits(budgets, put(faults, k, faults[k] + 1)):
            faults = put(faults, k, faults[k] + 1)
    return faults


def most_by_walk(walked, sources):
    """The most faults of b3 among all assignments."""
    return max(sum(faults) for faults in walked if all(k in sources for k in range(len(faults)) if faults[k]))


def told_prices(budgets, penalties, walked):
    """The prices of b6, level by level."""
    prices = [0] * len(budgets)

    def look(k, sources):
        part = [b for b in range(len(budgets)) if k in line_up(budgets, b)]
        if not [b for b in part if b in sources]:
            return
        children = [b for b in range(len(budgets)) if budgets[b][2] == k]
        bound = 0
        for child in children:
            bound += most_by_walk(walked, [b for b in sources if child in line_up(budgets, b)])
        if k in sources or budgets[k][1] <= bound:
            prices[k] += 1
            return
        for child in children:
            look(child, sources)

    for level in range(1, max(penalties) + 1):
        sources = [k for k, penalty in enumerate(penalties) if penalty >= level]
        for k in range(len(budgets)):
            if budgets[k][2] == -1:
                look(k, sources)
    return tuple(prices)


def some_cases():
    """Some greater budgets, each with some penalties, the same at each call."""
    draw = random.Random(6)
    return [
        (budgets, tuple(draw.choice((0, 0, 1, 2, 3, 5, 9)) for _ in budgets))
        for budgets in some_budgets(30)
        for _ in range(5)
    ]


class InterfaceTest(unittest.TestCase):
    def test_example(self):
        budgets = (("all", 3, -1), ("disk", 2, 0))
        self.assertEqual(
            (
                worst(budgets, (2, 5)),
                prices_of(budgets, (2, 5)),
                bound_of(budgets, (2, 5), (2, 3)),
                bound_of(budgets, (2, 5), (2, 2)),
            ),
            ((12, (1, 2)), (2, 3), 12, -1),
        )

    def test_kinds(self):
        self.assertIsInstance(worst(EXAMPLE, (2, 5)), tuple)
        self.assertIsInstance(worst(EXAMPLE, (2, 5))[1], tuple)
        self.assertIsInstance(prices_of(EXAMPLE, (2, 5)), tuple)

    def test_defined_in_their_file(self):
        for name in ("worst", "prices_of", "bound_of"):
            self.assertEqual(getattr(module, name).__module__, "faultdue.recovery")

    def test_nothing_handed_in_is_changed(self):
        handed = (TREE, (1, 5, 2, 7, 3, 7), (2, 5, 0, 6, 3, 6))
        budgets, penalties, prices = copy.deepcopy(handed)
        for _ in range(2):
            worst(budgets, penalties), prices_of(budgets, penalties), bound_of(budgets, penalties, prices)
            self.assertEqual((budgets, penalties, prices), handed)


class WorstTest(unittest.TestCase):
    def assert_worst(self, budgets, penalties, walked):
        most, faults = worst(budgets, penalties)
        self.assertEqual(most, max(recovery(penalties, walk) for walk in walked), (budgets, penalties))
        self.assertEqual(faults, told_assignment(budgets, penalties), (budgets, penalties))
        self.assertEqual(most, recovery(penalties, faults))

    def test_all_small_budgets(self):
        for budgets in small_budgets():
            walked = assignments(budgets)
            for penalties in product((0, 1, 2, 4), repeat=len(budgets)):
                self.assert_worst(budgets, penalties, walked)

    def test_some_greater_budgets(self):
        for budgets, penalties in some_cases():
            self.assert_worst(budgets, penalties, assignments(budgets))

    def test_equal_penalties_give_the_lower_index_first(self):
        self.assertEqual(worst(EXAMPLE, (5, 5)), (15, (3, 0)))
        budgets = (("a", 3, -1), ("b", 2, 0), ("c", 2, 0))
        self.assertEqual(worst(budgets, (0, 4, 4)), (12, (0, 2, 1)))
        self.assertEqual(worst(budgets, (4, 4, 5)), (14, (1, 0, 2)))

    def test_greater_penalties_come_first(self):
        budgets = (("a", 3, -1), ("b", 2, 0), ("c", 2, 0))
        self.assertEqual(worst(budgets, (0, 4, 5)), (14, (0, 1, 2)))
        self.assertEqual(worst(budgets, (3, 4, 5)), (14, (0, 1, 2)))
        self.assertEqual(worst(budgets, (6, 4, 5)), (18, (3, 0, 0)))

    def test_no_faults_without_a_penalty(self):
        self.assertEqual(worst(EXAMPLE, (0, 0)), (0, (0, 0)))
        self.assertEqual(worst(EXAMPLE, (0, 5)), (10, (0, 2)))
        self.assertEqual(worst(EXAMPLE, (5, 0)), (15, (3, 0)))

    def test_capacities_zero(self):
        self.assertEqual(worst((("a", 0, -1), ("b", 7, 0)), (2, 5)), (0, (0, 0)))
        self.assertEqual(worst((("a", 7, -1), ("b", 0, 0)), (2, 5)), (14, (7, 0)))

    def test_greatest_numbers(self):
        budgets = tuple((name, 20, -1) for name in "abcdef")
        self.assertEqual(worst(budgets, (1000,) * 6), (120000, (20,) * 6))


class PricesTest(unittest.TestCase):
    def assert_prices(self, budgets, penalties, walked):
        prices = prices_of(budgets, penalties)
        self.assertEqual(prices, told_prices(budgets, penalties, walked), (budgets, penalties))
        for k, penalty in enumerate(penalties):
            self.assertGreaterEqual(sum(prices[b] for b in line_up(budgets, k)), penalty, (budgets, penalties))
        bound = sum(budget[1] * price for budget, price in zip(budgets, prices))
        self.assertEqual(bound, max(recovery(penalties, walk) for walk in walked), (budgets, penalties))
        self.assertEqual(bound_of(budgets, penalties, prices), bound)
        self.assertEqual(worst(budgets, penalties)[0], bound)

    def test_all_small_budgets(self):
        for budgets in small_budgets():
            walked = assignments(budgets)
            for penalties in product((0, 1, 2, 4), repeat=len(budgets)):
                self.assert_prices(budgets, penalties, walked)

    def test_some_greater_budgets(self):
        for budgets, penalties in some_cases():
            self.assert_prices(budgets, penalties, assignments(budgets))

    def test_no_penalties(self):
        self.assertEqual(prices_of(EXAMPLE, (0, 0)), (0, 0))
        self.assertEqual(prices_of(TREE, (0,) * 6), (0,) * 6)

    def test_a_capacity_that_is_reached_is_cut(self):
        # The capacity of a is the sum of what b and c can have, so a is cut, not b and c.
        self.assertEqual(prices_of((("a", 4, -1), ("b", 2, 0), ("c", 2, 0)), (0, 3, 3)), (3, 0, 0))
        self.assertEqual(prices_of((("a", 5, -1), ("b", 2, 0), ("c", 2, 0)), (0, 3, 3)), (0, 3, 3))
        self.assertEqual(prices_of((("a", 4, -1), ("b", 2, 0), ("c", 2, 0)), (0, 3, 1)), (1, 2, 0))

    def test_capacities_zero(self):
        self.assertEqual(prices_of((("a", 0, -1), ("b", 0, 0)), (0, 2)), (2, 0))
        self.assertEqual(prices_of((("a", 1, -1), ("b", 0, 0)), (0, 2)), (0, 2))
        self.assertEqual(prices_of((("a", 0, -1),), (5,)), (5,))
        # A part without an open source is passed over, also where the capacity is 0.
        self.assertEqual(prices_of((("a", 0, -1), ("b", 3, -1)), (0, 2)), (0, 2))

    def test_great_penalties(self):
        self.assertEqual(prices_of(EXAMPLE, (1000, 1000)), (1000, 0))
        self.assertEqual(prices_of(EXAMPLE, (10**12, 10**12 + 7)), (10**12, 7))


class BoundTest(unittest.TestCase):
    def test_all_small_prices(self):
        for budgets in small_budgets():
            if len(budgets) > 2:
                continue
            walked = assignments(budgets)
            for penalties in product(range(3), repeat=len(budgets)):
                for prices in product(range(3), repeat=len(budgets)):
                    self.assert_bound(budgets, penalties, prices, walked)

    def assert_bound(self, budgets, penalties, prices, walked):
        covered = all(
            sum(prices[b] for b in line_up(budgets, k)) >= penalties[k] for k in range(len(budgets))
        )
        bound = sum(budget[1] * price for budget, price in zip(budgets, prices)) if covered else -1
        self.assertEqual(bound_of(budgets, penalties, prices), bound, (budgets, penalties, prices))
        if covered:
            self.assertGreaterEqual(bound, max(recovery(penalties, faults) for faults in walked))

    def test_one_short_does_not_cover(self):
        penalties = (1, 5, 2, 7, 3, 7)
        prices = (1, 4, 1, 5, 3, 5)
        bound = 9 * 1 + 4 * 4 + 5 * 1 + 3 * 5 + 2 * 3 + 2 * 5
        self.assertEqual(bound_of(TREE, penalties, prices), bound)
        for k in range(6):
            self.assertEqual(bound_of(TREE, penalties, put(prices, k, prices[k] - 1)), -1)

    def test_a_bound_of_zero_is_not_uncovered(self):
        self.assertEqual(bound_of((("a", 0, -1),), (5,), (5,)), 0)
        self.assertEqual(bound_of((("a", 0, -1),), (5,), (4,)), -1)
        self.assertEqual(bound_of(EXAMPLE, (0, 0), (0, 0)), 0)

    def test_more_than_enough_covers(self):
        self.assertEqual(bound_of(EXAMPLE, (2, 5), (9, 9)), 45)
        self.assertEqual(bound_of(EXAMPLE, (0, 0), (1, 0)), 3)

    def test_prices_below_do_not_help_sources_above(self):
        self.assertEqual(bound_of(EXAMPLE, (2, 0), (1, 5)), -1)
        self.assertEqual(bound_of(EXAMPLE, (0, 2), (2, 0)), 6)


if __name__ == "__main__":
    unittest.main()
