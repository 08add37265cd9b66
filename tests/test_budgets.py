"""Promises b1, b2 and b3, and c1 for them."""
import copy
import unittest
from itertools import chain, combinations

from faultdue import budgets as module
from faultdue.budgets import above, check_budgets, is_within, most_faults, remaining, used
from tests.helpers import NO_INTEGERS, assignments, fits, put, refusal, small_budgets, some_budgets

EXAMPLE = (("all", 3, -1), ("disk", 2, 0))
CHAIN = (("a", 6, -1), ("b", 5, 0), ("c", 4, 1), ("d", 3, 2), ("e", 2, 3), ("f", 1, 4))
SIDE_BY_SIDE = tuple((name, 2, -1) for name in "abcdef")
# all over disk and net; net over near and far; spare by itself
TREE = (("all", 9, -1), ("disk", 4, 0), ("net", 5, 0), ("near", 3, 2), ("spare", 2, -1), ("far", 2, 2))
REFUSED = (0, "not budgets")


class InterfaceTest(unittest.TestCase):
    def test_example(self):
        budgets = (("all", 3, -1), ("disk", 2, 0))
        self.assertEqual(
            (used(budgets, (1, 2)), most_faults(budgets, (1,)), most_faults(budgets, (0, 1))),
            ((3, 2), 2, 3),
        )

    def test_defined_in_their_file(self):
        for name in ("check_budgets", "above", "used", "is_within", "remaining", "most_faults"):
            self.assertEqual(getattr(module, name).__module__, "faultdue.budgets")


class CheckTest(unittest.TestCase):
    def assert_lets(self, value):
        self.assertIsNone(refusal(check_budgets, value), value)

    def assert_refuses(self, value):
        before = copy.deepcopy(value)
        self.assertEqual(refusal(check_budgets, value), REFUSED, value)
        self.assertEqual(value, before)

    def test_right_budgets(self):
        for value in (EXAMPLE, CHAIN, SIDE_BY_SIDE, TREE, (("all", 3, -1),)):
            self.assert_lets(value)

    def test_bounds_of_numbers_and_names(self):
        for value in ((("a", 0, -1),), (("a", 20, -1),), (("abcdefgh", 1, -1),), (("az", 1, -1), ("za", 1, 0))):
            self.assert_lets(value)

    def test_number_of_budgets(self):
        self.assert_refuses(())
        self.assert_refuses(SIDE_BY_SIDE + (("g", 2, -1),))
        self.assert_refuses(CHAIN + (("g", 2, 5),))

    def test_names_twice(self):
        self.assert_refuses((("all", 3, -1), ("all", 2, 0)))
        self.assert_refuses((("all", 3, -1), ("disk", 2, 0), ("all", 3, -1)))
        self.assert_refuses((("all", 3, -1), ("all", 3, -1)))

    def test_names(self):
        wrong = ("", "abcdefghi", "All", "alL", "a1", "1", "a.", ".a", "a.3", "a b", " a", "a\n", "a-b", "\u00e9",
                 "\uff41", "a{", "`a", None, 7, True, ("a",), ["a"])
        for name in wrong:
            with self.subTest(name=name):
                self.assert_refuses(((name, 3, -1),))
                self.assert_refuses((("all", 3, -1), (name, 2, 0)))

    def test_capacities(self):
        for capacity in (-1, 21, 10**30) + NO_INTEGERS:
            with self.subTest(capacity=capacity):
                self.assert_refuses((("all", capacity, -1),))
                self.assert_refuses((("all", 3, -1), ("disk", capacity, 0)))

    def test_parents(self):
        for parent in (-2, 0, 1, 2) + NO_INTEGERS:
            with self.subTest(parent=parent):
                self.assert_refuses((("all", 3, parent), ("disk", 2, -1)))
        for parent in (-2, 1, 2, 3) + NO_INTEGERS:
            with self.subTest(parent=parent):
                self.assert_refuses((("all", 3, -1), ("disk", 2, parent), ("net", 2, -1)))

    def test_true_is_no_parent_where_one_would_be(self):
        three = (("a", 1, -1), ("b", 1, -1), ("c", 1, 1))
        self.assert_lets(three)
        self.assert_refuses(put(three, 2, ("c", 1, True)))
        self.assert_refuses(put(three, 2, ("c", 1, False)))

    def test_shapes(self):
        self.assert_refuses([("all", 3, -1)])
        self.assert_refuses((["all", 3, -1],))
        self.assert_refuses((("all", 3, -1), ["disk", 2, 0]))
        self.assert_refuses((("all", 3),))
        self.assert_refuses((("all", 3, -1, 0),))
        self.assert_refuses((("all", 3, -1), ()))
        self.assert_refuses((("all", 3, -1), None))
        self.assert_refuses((("all", 3, -1), "abc"))
        self.assert_refuses(("all", 3, -1))

    def test_other_things_in_place_of_the_whole(self):
        for value in (None, "", "abc", 0, 3, True, False, [], [[]], ((),), (((),),)):
            with self.subTest(value=value):
                self.assert_refuses(value)

    def test_deep_nests(self):
        deep = ()
        for _ in range(50000):
            deep = (deep,)
        self.assertEqual(refusal(check_budgets, deep), REFUSED)
        self.assertEqual(refusal(check_budgets, ((deep, 1, -1),)), REFUSED)
        self.assertEqual(refusal(check_budgets, (("a", deep, -1),)), REFUSED)
        self.assertEqual(refusal(check_budgets, (("a", 1, deep),)), REFUSED)


class AssignmentTest(unittest.TestCase):
    def test_above_is_nearest_first(self):
        self.assertEqual(above(CHAIN, 5), [4, 3, 2, 1, 0])
        self.assertEqual(above(CHAIN, 1), [0])
        self.assertEqual(above(CHAIN, 0), [])
        self.assertEqual([above(TREE, k) for k in range(6)], [[], [0], [0], [2, 0], [], [2, 0]])
        self.assertEqual(above(SIDE_BY_SIDE, 5), [])

    def test_used(self):
        self.assertEqual(used(TREE, (1, 2, 4, 8, 16, 32)), (47, 2, 44, 8, 16, 32))
        self.assertEqual(used(CHAIN, (1, 2, 4, 8, 16, 32)), (63, 62, 60, 56, 48, 32))
        self.assertEqual(used(SIDE_BY_SIDE, (1, 2, 4, 8, 16, 32)), (1, 2, 4, 8, 16, 32))
        self.assertEqual(used(EXAMPLE, (0, 0)), (0, 0))
        self.assertIsInstance(used(EXAMPLE, (1, 1)), tuple)

    def test_is_within_at_the_capacity_and_beyond(self):
        self.assertIs(is_within(EXAMPLE, (0, 0)), True)
        self.assertIs(is_within(EXAMPLE, (1, 2)), True)
        self.assertIs(is_within(EXAMPLE, (3, 0)), True)
        self.assertIs(is_within(EXAMPLE, (4, 0)), False)
        self.assertIs(is_within(EXAMPLE, (0, 3)), False)
        self.assertIs(is_within(EXAMPLE, (2, 2)), False)
        self.assertIs(is_within((("a", 0, -1),), (0,)), True)
        self.assertIs(is_within((("a", 0, -1),), (1,)), False)

    def test_is_within_looks_at_budgets_far_above(self):
        budgets = put(CHAIN, 0, ("a", 0, -1))
        self.assertIs(is_within(budgets, (0, 0, 0, 0, 0, 1)), False)
        self.assertIs(is_within(CHAIN, (0, 0, 0, 0, 0, 1)), True)
        self.assertIs(is_within(CHAIN, (0, 0, 0, 0, 0, 2)), False)
        self.assertIs(is_within(CHAIN, (1, 1, 1, 1, 1, 1)), True)
        self.assertIs(is_within(CHAIN, (2, 1, 1, 1, 1, 1)), False)

    def test_is_within_as_told(self):
        for budgets in some_budgets(10):
            for faults in ((0,) * 6, (1,) * 6, (0, 1) * 3, (1, 0, 0) * 2, (0, 0, 2) * 2, (3, 0, 0, 0, 0, 0)):
                faults = faults[: len(budgets)]
                self.assertIs(is_within(budgets, faults), fits(budgets, faults), (budgets, faults))

    def test_remaining(self):
        self.assertEqual(remaining(EXAMPLE, (1, 2)), (("all", 0, -1), ("disk", 0, 0)))
        self.assertEqual(remaining(EXAMPLE, (1, 1)), (("all", 1, -1), ("disk", 1, 0)))
        self.assertEqual(remaining(EXAMPLE, (0, 0)), EXAMPLE)
        self.assertEqual(
            remaining(TREE, (1, 2, 0, 1, 2, 1)),
            (("all", 4, -1), ("disk", 2, 0), ("net", 3, 0), ("near", 2, 2), ("spare", 0, -1), ("far", 1, 2)),
        )
        check_budgets(remaining(TREE, (1, 2, 0, 1, 2, 1)))

    def test_nothing_handed_in_is_changed(self):
        budgets, faults, sources = copy.deepcopy((TREE, (1, 2, 0, 1, 2, 1), (0, 3)))
        for _ in range(2):
            above(budgets, 3), used(budgets, faults), is_within(budgets, faults)
            remaining(budgets, faults), most_faults(budgets, sources), check_budgets(budgets)
            self.assertEqual((budgets, faults, sources), (TREE, (1, 2, 0, 1, 2, 1), (0, 3)))


class MostFaultsTest(unittest.TestCase):
    def assert_most(self, budgets):
        walked = assignments(budgets)
        indices = range(len(budgets))
        for sources in chain.from_iterable(combinations(indices, many) for many in range(len(budgets) + 1)):
            others = [k for k in indices if k not in sources]
            sums = [sum(faults) for faults in walked if not any(faults[k] for k in others)]
            self.assertEqual(most_faults(budgets, sources), max(sums), (budgets, sources))

    def test_all_small_budgets(self):
        for budgets in small_budgets():
            self.assert_most(budgets)

    def test_some_greater_budgets(self):
        for budgets in some_budgets(12):
            self.assert_most(budgets)

    def test_no_sources(self):
        for budgets in (EXAMPLE, CHAIN, SIDE_BY_SIDE, TREE):
            self.assertEqual(most_faults(budgets, ()), 0)

    def test_sources_below_and_above_each_other(self):
        self.assertEqual(most_faults(TREE, (0, 2, 3)), 9)
        self.assertEqual(most_faults(TREE, (3, 5)), 5)
        self.assertEqual(most_faults(TREE, (3, 2)), 5)
        self.assertEqual(most_faults(TREE, (1, 3)), 7)
        self.assertEqual(most_faults(CHAIN, (5, 0)), 6)
        self.assertEqual(most_faults(CHAIN, (5, 4)), 2)
        self.assertEqual(most_faults(SIDE_BY_SIDE, (5, 0, 3)), 6)

    def test_bounded_by_a_budget_above(self):
        budgets = (("a", 1, -1), ("b", 5, 0), ("c", 5, 0))
        self.assertEqual(most_faults(budgets, (1, 2)), 1)
        self.assertEqual(most_faults(budgets, (2,)), 1)
        self.assertEqual(most_faults((("a", 0, -1), ("b", 5, 0)), (1,)), 0)

    def test_order_of_sources_does_not_matter(self):
        self.assertEqual(most_faults(TREE, (5, 1, 4)), most_faults(TREE, (1, 4, 5)))
        self.assertEqual(most_faults(TREE, (5, 1, 4)), 8)


if __name__ == "__main__":
    unittest.main()
