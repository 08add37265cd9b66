"""Promises d1 and d3, and c1 for them."""
import copy
import random
import unittest

from faultdue import demand as module
from faultdue.demand import analysis, bodies, demand, ends_of, penalties
from faultdue.recovery import bound_of
from faultdue.systems import horizon_of
from faultdue.text import parse
from tests.helpers import (
    drawn_systems, plain_demand, plain_ends, plain_inside, plain_penalties, plain_recovery, plain_slack,
)

TASK = ("task", "b", 10, 6, 4, ((2, 0), (1, 0)))


def some_intervals(draw, count):
    """Some intervals near the small systems' jobs and tasks, those of length 0 among them."""
    found = []
    for _ in range(count):
        s = draw.randint(0, 30)
        found.extend([(s, s), (s, s + draw.randint(0, 20)), (s, s + draw.randint(0, 100))])
    return found


class InterfaceTest(unittest.TestCase):
    def test_example(self):
        system = parse("budget all 2\nbudget disk 1 in all\njob a 0 to 20 do 4 disk 3 all\njob b 2 to 9 do 2 disk\n")
        self.assertEqual(
            (analysis(system, 0, 20), analysis(system, 2, 9)),
            ((9, 7, 4, (1, 1), (3, 1)), (2, 2, 3, (0, 1), (0, 2))),
        )

    def test_kinds(self):
        system = parse("budget all 2\njob a 0 to 20 do 4 all\n")
        self.assertIsInstance(penalties(system, 0, 20), tuple)
        self.assertIsInstance(analysis(system, 0, 20), tuple)
        self.assertIsInstance(ends_of(system, 0, 20), list)

    def test_defined_in_their_file(self):
        for name in ("bodies", "demand", "penalties", "analysis", "ends_of"):
            self.assertEqual(getattr(module, name).__module__, "faultdue.demand")

    def test_nothing_handed_in_is_changed(self):
        for system in drawn_systems(5):
            before = copy.deepcopy(system)
            for _ in range(2):
                [bodies(task, 0, 50) for task in system[3]]
                demand(system, 0, 50), penalties(system, 0, 50), analysis(system, 0, 50), ends_of(system, 0, 50)
                self.assertEqual(system, before)


class BodiesTest(unittest.TestCase):
    def test_one_by_one(self):
        draw = random.Random(2)
        for _ in range(300):
            task = ("task", "b", draw.randint(0, 20), draw.randint(1, 9), draw.randint(0, 12), ((1, 0),))
            system = ("system", (("all", 1, -1),), (), (task,))
            for s, e in some_intervals(draw, 3):
                self.assertEqual(bodies(task, s, e), len(plain_inside(system, s, e)), (task, s, e))

    def test_ahead_of_first(self):
        # The first body comes at 10 and is due at 14.
        self.assertEqual([bodies(TASK, 0, e) for e in (0, 13, 14, 19, 20, 25, 26)], [0, 0, 1, 1, 2, 2, 3])
        self.assertEqual([bodies(TASK, s, 20) for s in (0, 9, 10)], [2, 2, 2])

    def test_behind_first(self):
        self.assertEqual([bodies(TASK, s, 20) for s in (11, 16, 17, 20)], [1, 1, 0, 0])
        self.assertEqual([bodies(TASK, 1000, e) for e in (1003, 1004, 1009, 1010)], [0, 1, 1, 2])

    def test_an_interval_of_length_0(self):
        self.assertEqual(bodies(TASK, 14, 14), 0)
        at_once = ("task", "b", 10, 6, 0, ((2, 0),))
        self.assertEqual([bodies(at_once, s, s) for s in (0, 9, 10, 11, 12)], [0, 0, 1, 1, 1])

    def test_great_numbers(self):
        self.assertEqual(bodies(TASK, 10**9, 10**9 + 10**12), 1 + (10**12 - 4) // 6)
        self.assertEqual(bodies(("task", "b", 1000, 1000, 1000, ((1, 0),)), 0, 10**9), 1 + (10**9 - 2000) // 1000)


class DemandTest(unittest.TestCase):
    def test_against_a_plain_walk(self):
        draw = random.Random(3)
        for system in drawn_systems(80):
            for s, e in some_intervals(draw, 4):
                told = analysis(system, s, e)
                self.assertEqual(demand(system, s, e), plain_demand(system, s, e), (system, s, e))
                self.assertEqual(penalties(system, s, e), plain_penalties(system, s, e), (system, s, e))
                self.assertEqual(told[0], plain_demand(system, s, e))
                self.assertEqual(told[1], plain_recovery(system[1], plain_penalties(system, s, e)))
                self.assertEqual(told[2], plain_slack(system, s, e))
                self.assertEqual(told[1], sum(p * f for p, f in zip(plain_penalties(system, s, e), told[3])))
                self.assertEqual(bound_of(system[1], plain_penalties(system, s, e), told[4]), told[1])

    def test_release_and_due_at_the_border(self):
        system = parse("budget all 1\njob a 5 to 9 do 3 all\n")
        inside = [(s, e) for s in range(8) for e in range(s, 12) if demand(system, s, e)]
        self.assertEqual(inside, [(s, e) for s in range(6) for e in (9, 10, 11)])
        self.assertEqual(inside, [(s, e) for s in range(8) for e in range(s, 12) if penalties(system, s, e) != (0,)])

    def test_a_segment_partly_executed(self):
        system = parse("budget all 1\nbudget disk 1\njob a 0 to 9 done 3 do 4 all 2 disk\n")
        self.assertEqual(analysis(system, 0, 9)[:4], (3, 6, 0, (1, 1)))
        system = parse("budget all 1\njob a 0 to 9 done 4 do 4 all\n")
        self.assertEqual(analysis(system, 0, 9), (0, 4, 5, (1,), (4,)))

    def test_length_0(self):
        system = parse("budget all 2\njob a 5 to 5 do 3 all\njob b 5 to 6 do 4 all\n")
        self.assertEqual(analysis(system, 5, 5), (3, 6, -9, (2,), (3,)))
        self.assertEqual(analysis(system, 6, 6), (0, 0, 0, (0,), (0,)))

    def test_nothing_in_it(self):
        system = parse("budget all 2\nbudget disk 2\njob a 5 to 9 do 3 all\n")
        self.assertEqual(analysis(system, 6, 60), (0, 0, 54, (0, 0), (0, 0)))
        self.assertEqual(analysis(parse("budget all 2"), 0, 7), (0, 0, 7, (0,), (0,)))

    def test_recovery_counts_once_for_many_bodies(self):
        system = parse("budget all 2\ntask a from 0 gap 10 due 5 do 3 all 4 all\n")
        self.assertEqual(analysis(system, 0, 95), (70, 8, 17, (2,), (4,)))

    def test_far_behind_the_horizon(self):
        system = parse("budget all 2\ntask a from 3 gap 10 due 5 do 3 all\njob b 0 to 9 do 2 all\n")
        self.assertEqual(analysis(system, 0, 10**9)[0], 2 + 3 * (1 + (10**9 - 8) // 10))
        self.assertEqual(analysis(system, 10**6, 10**9)[0], 3 * (1 + (10**9 - 10**6 - 5) // 10))


class EndsTest(unittest.TestCase):
    def test_against_a_plain_walk(self):
        draw = random.Random(4)
        for system in drawn_systems(80):
            for s in (0, draw.randint(0, 12), draw.randint(0, 60)):
                for most in (s, s + draw.randint(0, 20), s + draw.randint(0, 80), max(0, s - 3)):
                    self.assertEqual(ends_of(system, s, most), plain_ends(system, s, most), (system, s, most))

    def test_up_to_most_itself(self):
        system = parse("budget all 1\njob a 0 to 9 do 1 all\ntask b from 2 gap 5 due 3 do 1 all\n")
        self.assertEqual(ends_of(system, 0, 8), [5])
        self.assertEqual(ends_of(system, 0, 9), [5, 9])
        self.assertEqual(ends_of(system, 0, 10), [5, 9, 10])
        self.assertEqual(ends_of(system, 0, 4), [])
        self.assertEqual(ends_of(system, 0, 5), [5])
        self.assertEqual(ends_of(system, 1, 15), [5, 10, 15])
        self.assertEqual(ends_of(system, 4, 15), [7, 12])

    def test_each_once(self):
        system = parse("budget all 1\njob a 0 to 9 do 1 all\njob b 2 to 9 do 1 all\njob c 1 to 6 do 1 all\n"
                       "task d from 2 gap 5 due 7 do 1 all\ntask e from 0 gap 5 due 9 do 1 all\n")
        self.assertEqual(ends_of(system, 0, 20), [6, 9, 14, 19])
        self.assertEqual(ends_of(system, 2, 20), [9, 11, 14, 16, 19])

    def test_none(self):
        self.assertEqual(ends_of(parse("budget all 1"), 0, 100), [])
        self.assertEqual(ends_of(parse("budget all 1\njob a 3 to 9 do 1 all"), 4, 100), [])

    def test_nothing_new_comes_in_between_two_ends(self):
        for system in drawn_systems(30):
            for s in (0, 3, 9):
                ends = ends_of(system, s, s + 60)
                for e in range(s + 1, s + 61):
                    if e not in ends:
                        self.assertEqual(plain_inside(system, s, e), plain_inside(system, s, e - 1))


class HorizonTest(unittest.TestCase):
    """d3."""

    def test_demand_is_bounded(self):
        for system in drawn_systems(60):
            horizon = horizon_of(system)
            for s in (0, 2, 7, 13, 40):
                for length in (horizon, horizon + 1, horizon + 17, 3 * horizon):
                    self.assertGreaterEqual(plain_slack(system, s, s + length), 0, (system, s, length))

    def test_behind_latest(self):
        for system in drawn_systems(60):
            latest = max([item[2] for item in system[2] + system[3]], default=0)
            for s in (latest + 1, latest + 2, latest + 20):
                for length in (0, 3, 10, 30, 70):
                    at_latest = analysis(system, latest, latest + length)
                    self.assertGreaterEqual(at_latest[0], analysis(system, s, s + length)[0])
                    self.assertGreaterEqual(at_latest[1], analysis(system, s, s + length)[1])


if __name__ == "__main__":
    unittest.main()
