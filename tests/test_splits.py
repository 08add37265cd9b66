"""Promises z1 to z4."""
import unittest

from faultdue import splits as module
from faultdue.admission import is_sure
from faultdue.splits import best, best_costs, cost, even
from faultdue.systems import check_system


def divisions(work, most):
    """All divisions of some work into at most so many parts, their order among them."""
    found = [(work,)] if most >= 1 else []
    if most > 1:
        for part in range(1, work):
            found.extend([(part,) + rest for rest in divisions(work - part, most - 1)])
    return found


def plain_cost(parts, overhead, faults):
    """The cost of a division, straight from z1."""
    lengths = [part + overhead for part in parts]
    return sum(lengths) + faults * max(lengths)


class InterfaceTest(unittest.TestCase):
    def test_example(self):
        self.assertEqual(
            (even(10, 4), cost((3, 3, 2, 2), 1, 2), best(10, 1, 2), best(10, 1, 0)),
            ((3, 3, 2, 2), 22, (5, 21, (3, 3, 3, 3, 3)), (1, 11, (11,))),
        )

    def test_defined_in_their_file(self):
        for name in ("even", "cost", "best", "best_costs"):
            self.assertEqual(getattr(module, name).__module__, "faultdue.splits")

    def test_kinds(self):
        self.assertIsInstance(best(10, 1, 2), tuple)
        self.assertIsInstance(best(10, 1, 2)[2], tuple)
        self.assertIsInstance(best_costs(10, 1, 2), tuple)
        self.assertIsInstance(best_costs(10, 1, 2)[0], tuple)


class EvenTest(unittest.TestCase):
    """z2."""

    def test_all_small_ones(self):
        for work in range(1, 40):
            for count in range(1, work + 1):
                parts = even(work, count)
                self.assertIsInstance(parts, tuple)
                self.assertEqual((sum(parts), len(parts)), (work, count))
                self.assertLessEqual(max(parts) - min(parts), 1)
                self.assertEqual(list(parts), sorted(parts, reverse=True))
                self.assertGreaterEqual(min(parts), 1)

    def test_counts_above_6(self):
        self.assertEqual(even(10, 7), (2, 2, 2, 1, 1, 1, 1))
        self.assertEqual(even(10, 10), (1,) * 10)
        self.assertEqual(even(1000, 7), (143,) * 6 + (142,))
        self.assertEqual(even(1000, 999), (2,) + (1,) * 998)
        self.assertEqual(even(1000, 1000), (1,) * 1000)

    def test_borders(self):
        self.assertEqual(even(1, 1), (1,))
        self.assertEqual(even(1000, 1), (1000,))
        self.assertEqual(even(12, 6), (2,) * 6)


class CostTest(unittest.TestCase):
    """z1."""

    def test_costs(self):
        self.assertEqual(cost((5,), 0, 0), 5)
        self.assertEqual(cost((5,), 3, 0), 8)
        self.assertEqual(cost((5,), 3, 4), 40)
        self.assertEqual(cost((1, 5, 2), 3, 4), 8 + 9 + 32)
        self.assertEqual(cost((1, 5, 2), 0, 1), 13)
        self.assertEqual(cost((1000,), 1000, 20), 42000)

    def test_against_a_plain_count(self):
        for parts in divisions(7, 6):
            for overhead in (0, 1, 5):
                for faults in (0, 1, 3, 20):
                    self.assertEqual(cost(parts, overhead, faults), plain_cost(parts, overhead, faults))


class BestTest(unittest.TestCase):
    """z3."""

    def test_against_all_divisions(self):
        for work in range(1, 15):
            all_parts = divisions(work, 6)
            for overhead in (0, 1, 2, 3, 7):
                for faults in (0, 1, 2, 3, 5, 20):
                    costs = [(plain_cost(parts, overhead, faults), len(parts)) for parts in all_parts]
                    least, count = min(costs)
                    told = best(work, overhead, faults)
                    self.assertEqual(told[:2], (count, least), (work, overhead, faults))
                    self.assertEqual(told[2], tuple(part + overhead for part in even(work, count)))

    def test_of_equal_costs_the_fewest_parts(self):
        # One part: 6 + 6. Two parts: 4 + 4 + 4.
        self.assertEqual([plain_cost(even(4, count), 2, 1) for count in (1, 2)], [12, 12])
        self.assertEqual(best(4, 2, 1), (1, 12, (6,)))
        self.assertEqual(best(6, 0, 0), (1, 6, (6,)))

    def test_small_and_great_works(self):
        self.assertEqual(best(1, 0, 0), (1, 1, (1,)))
        self.assertEqual(best(1, 1000, 20), (1, 21021, (1001,)))
        self.assertEqual(best(3, 0, 20), (3, 23, (1, 1, 1)))
        self.assertEqual(best(1000, 0, 20), (6, 1000 + 20 * 167, (167,) * 4 + (166,) * 2))
        self.assertEqual(best(1000, 1000, 20), (4, 5000 + 20 * 1250, (1250,) * 4))
        self.assertEqual(best(1000, 1000, 0), (1, 2000, (2000,)))

    def test_no_more_than_6_parts(self):
        for faults in range(21):
            self.assertLessEqual(best(1000, 0, faults)[0], 6)
        self.assertEqual(best(1000, 0, 1)[0], 6)

    def test_best_costs(self):
        for work, overhead in ((1, 0), (1, 5), (10, 1), (37, 3), (1000, 0), (1000, 1000), (6, 0)):
            for most in (0, 1, 7, 20):
                told = best_costs(work, overhead, most)
                self.assertEqual(told, tuple(best(work, overhead, faults)[:2] for faults in range(most + 1)))


class SystemTest(unittest.TestCase):
    """z4."""

    def test_just_sure(self):
        seen = 0
        for work in (1, 2, 5, 12, 40, 150, 600, 1000):
            for overhead in (0, 1, 4, 30):
                for faults in (0, 1, 2, 5, 20):
                    _, total, lengths = best(work, overhead, faults)
                    if total > 1000:
                        continue
                    segments = tuple((length, 0) for length in lengths)
                    for due, told in ((total, True), (total - 1, False)):
                        system = ("system", (("all", faults, -1),), (("job", "a", 0, due, 0, segments),), ())
                        check_system(system)
                        self.assertIs(is_sure(system), told, (work, overhead, faults))
                    seen += 1
        self.assertGreater(seen, 60)


if __name__ == "__main__":
    unittest.main()
