"""Promise f1, and c1 for it."""
import copy
import random
import time
import unittest

from faultdue import dangers as module
from faultdue.admission import is_sure
from faultdue.dangers import bearable, least_faults
from faultdue.text import parse
from tests.helpers import (assignments_of, drawn_systems, fits, plain_demand, plain_penalties, plain_recovery, plain_walk,
                           put)
from tests.test_admission import LONG, many_jobs

SYSTEMS = drawn_systems(220, seed=41)


def makes_crowded(system, s, e, faults):
    """Are demand and the recovery of these faults together above the length of the interval?"""
    recovery = sum(penalty * count for penalty, count in zip(plain_penalties(system, s, e), faults))
    return plain_demand(system, s, e) + recovery > e - s


def plain_least(system, s, e):
    """The fewest faults of an assignment within the budgets that makes the interval crowded, None if none does."""
    return min((sum(f) for f in assignments_of(system[1]) if makes_crowded(system, s, e, f)), default=None)


def plain_first(system):
    """(s, e, number) of the first interval of d2 with the fewest faults, () if there is none."""
    found = ()
    for s, e, slack in plain_walk(system):
        # Where the worst recovery makes none crowded, no assignment does.
        if slack < 0:
            number = plain_least(system, s, e)
            if found == () or number < found[2]:
                found = (s, e, number)
    return found


def most_of_all(budgets):
    return plain_recovery(budgets, (1,) * len(budgets))


class InterfaceTest(unittest.TestCase):
    def test_example(self):
        self.assertEqual(least_faults(parse("budget cpu 3\njob a 0 to 10 do 3 cpu\n")), (0, 10, (3,)))

    def test_defined_in_their_file(self):
        for name in ("least_faults", "bearable"):
            self.assertEqual(getattr(module, name).__module__, "faultdue.dangers")

    def test_nothing_handed_in_is_changed(self):
        for system in SYSTEMS[:20]:
            handed = copy.deepcopy(system)
            for _ in range(2):
                least_faults(handed), bearable(handed)
                self.assertEqual(handed, system)


class LeastTest(unittest.TestCase):
    def test_against_all_assignments(self):
        numbers = []
        for system in SYSTEMS:
            told = least_faults(system)
            first = plain_first(system)
            self.assertEqual(told == (), first == (), system)
            self.assertIs(told == (), is_sure(system), system)
            if told:
                s, e, faults = told
                self.assertEqual((s, e, sum(faults)), first, system)
                self.assertTrue(fits(system[1], faults), (system, told))
                self.assertTrue(makes_crowded(system, s, e, faults), (system, told))
                self.assertIsInstance(told, tuple)
                self.assertIsInstance(faults, tuple)
                self.assertEqual(len(faults), len(system[1]))
                numbers.append(sum(faults))
        for number in (0, 1, 2):
            self.assertGreater(numbers.count(number), 3)

    def test_no_interval_is_crowded_with_fewer(self):
        for system in [system for system in SYSTEMS if sum(least_faults(system)[2:3], ())][:30]:
            fewer = sum(least_faults(system)[2]) - 1
            for s, e, _ in plain_walk(system):
                for faults in assignments_of(system[1]):
                    if sum(faults) <= fewer:
                        self.assertFalse(makes_crowded(system, s, e, faults), (system, s, e, faults))

    def test_crowded_without_any_fault(self):
        # From 0 on one fault makes (0, 4) crowded, from 2 on there is no room even without.
        for text in ("budget all 2\njob a 0 to 9 do 2 all\njob b 2 to 4 do 3 all\n",
                     "budget all 0\njob b 2 to 4 do 3 all\n"):
            self.assertEqual((least_faults(parse(text)), bearable(parse(text))), ((2, 4, (0,)), -1))

    def test_sure_systems(self):
        text = "budget all 3\nbudget disk 2 in all\nbudget net 5\njob a 0 to {} do 3 disk\n"
        self.assertEqual((least_faults(parse(text.format(9))), bearable(parse(text.format(9)))), ((), 8))
        self.assertEqual(least_faults(parse(text.format(8))), (0, 8, (0, 2, 0)))
        self.assertEqual(bearable(parse(text.format(8))), 1)
        alone = parse("budget all 3\nbudget disk 2 in all\nbudget net 5\n")
        self.assertEqual((least_faults(alone), bearable(alone)), ((), 8))
        self.assertEqual(bearable(parse("budget all 0\nbudget disk 2 in all")), 0)

    def test_the_greatest_penalty_that_the_budgets_still_allow(self):
        # disk costs 5 twice, then all costs 2: 9 + 5 + 5 + 2 = 21.
        text = "budget all 3\nbudget disk 2 in all\njob a 0 to {} do 5 disk 4 disk\njob b 0 to {} do 2 all\n"
        for due, told in ((10, (0, 10, (0, 0))), (11, (0, 11, (0, 1))), (15, (0, 15, (0, 1))), (16, (0, 16, (0, 2))),
                          (20, (0, 20, (0, 2))), (21, (0, 21, (1, 2))), (22, (0, 22, (1, 2))), (23, ())):
            system = parse(text.format(due, due))
            self.assertEqual(least_faults(system), told)
            self.assertEqual(bearable(system), sum(told[2]) - 1 if told else 3)

    def test_the_first_of_several_intervals(self):
        text = "budget all 2\njob a 0 to {} do 3 all\njob b 5 to 9 do 3 all\n"
        # One fault makes (0, 4) crowded, and (4, 9) and (5, 9), too.
        self.assertEqual(least_faults(parse(text.format(4))), (0, 4, (1,)))
        self.assertEqual(least_faults(parse(text.format(40))), (4, 9, (1,)))
        # One start, and two ends that are crowded with one fault.
        both = parse("budget all 2\njob a 0 to 5 do 3 all\njob b 0 to 8 do 3 all\n")
        self.assertEqual(least_faults(both), (0, 5, (1,)))

    def test_fewer_faults_in_a_later_interval(self):
        system = parse("budget all 2\njob a 0 to 8 do 3 all\njob b 9 to 10 do 1 all\n")
        # (0, 8) is crowded with two faults; the first start from which b is in one with one fault is 9.
        self.assertEqual(plain_least(system, 0, 8), 2)
        self.assertEqual(least_faults(system), (9, 10, (1,)))

    def test_tasks(self):
        system = parse("budget all 2\nbudget disk 1 in all\ntask t from 3 gap 10 due 6 do 2 disk 2 all\n")
        s, e, faults = least_faults(system)
        self.assertEqual((s, e, sum(faults), bearable(system)), (2, 9, 2, 1))
        # From 1 on one body has 7 units, and needs 8 with a fault; from 0 on it has room for one.
        close = parse("budget all 2\ntask t from 3 gap 5 due 5 do 4 all\n")
        self.assertEqual(least_faults(close), (1, 8, (1,)))

    def test_great_systems_are_quick(self):
        began = time.perf_counter()
        for system in (parse(LONG), many_jobs()):
            self.assertEqual(least_faults(system), ())
            more = put(system, 1, tuple((name, 20, parent) for name, _, parent in system[1]))
            self.assertEqual(least_faults(more) == (), is_sure(more))
        self.assertLess(time.perf_counter() - began, 10)


class BearableTest(unittest.TestCase):
    def test_one_less_than_the_fewest(self):
        for system in SYSTEMS:
            first = plain_first(system)
            self.assertEqual(bearable(system), first[2] - 1 if first else most_of_all(system[1]), system)

    def test_with_so_many_faults_nothing_is_crowded(self):
        draw = random.Random(42)
        for system in draw.sample(SYSTEMS, 25):
            told = bearable(system)
            for s, e, _ in plain_walk(system):
                for faults in assignments_of(system[1]):
                    if sum(faults) <= told:
                        self.assertFalse(makes_crowded(system, s, e, faults), (system, s, e, faults))


if __name__ == "__main__":
    unittest.main()
