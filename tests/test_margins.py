"""Promises g1 to g3, and c1 for them."""
import copy
import random
import time
import unittest

from faultdue import margins as module
from faultdue.admission import crowded, is_sure
from faultdue.margins import earliest_due, greatest_capacity, least_gap, longest_length, longest_new
from faultdue.systems import check_system
from faultdue.text import parse
from tests.helpers import drawn_systems, plain_walk, put, refusal

SYSTEMS = drawn_systems(45, seed=22)
JOBS, TASKS = 2, 3
# Without faults: what makes these systems too great is their horizon alone.
NONE = (("all", 0, -1),)


def let_and_sure(system):
    """Is the system fit, straight from g1?"""
    return refusal(check_system, system) is None and crowded(system) == []


def changed(system, field, index, place, value):
    return put(system, field, put(system[field], index, put(system[field][index], place, value)))


def with_length(system, kind, index, segment, length):
    field = JOBS if kind == "job" else TASKS
    segments = system[field][index][5]
    return changed(system, field, index, 5, put(segments, segment, (length, segments[segment][1])))


def with_due(system, kind, index, due):
    return changed(system, JOBS, index, 3, due) if kind == "job" else changed(system, TASKS, index, 4, due)


def with_capacity(system, budget, capacity):
    return changed(system, 1, budget, 1, capacity)


def with_gap(system, index, gap):
    return changed(system, TASKS, index, 3, gap)


def with_new(system, release, due, source, length):
    return put(system, JOBS, system[JOBS] + (("job", "new", release, due, 0, ((length, source),)),))


class InterfaceTest(unittest.TestCase):
    def test_example(self):
        system = parse("budget cpu 1\njob a 0 to 10 do 3 cpu\njob b 2 to 9 do 2 cpu\n")
        self.assertEqual(
            (longest_length(system, "job", 0, 0), earliest_due(system, "job", 0), greatest_capacity(system, 0),
             longest_new(system, 0, 10, 0)),
            (4, 6, 1, 2),
        )

    def test_defined_in_their_file(self):
        for name in ("longest_length", "earliest_due", "greatest_capacity", "least_gap", "longest_new"):
            self.assertEqual(getattr(module, name).__module__, "faultdue.margins")

    def test_nothing_handed_in_is_changed(self):
        system = parse("budget cpu 1\njob a 0 to 10 do 3 cpu\ntask b from 2 gap 20 due 9 do 2 cpu\n")
        before = copy.deepcopy(system)
        for _ in range(2):
            longest_length(system, "job", 0, 0), longest_length(system, "task", 0, 0), earliest_due(system, "job", 0)
            earliest_due(system, "task", 0), greatest_capacity(system, 0), least_gap(system, 0)
            longest_new(system, 0, 9, 0)
            self.assertEqual(system, before)


class MarginCase(unittest.TestCase):
    def assert_greatest(self, told, numbers, made):
        """Told is the greatest of the numbers up to which all made systems are fit; no greater one is."""
        fit = [number for number in numbers if let_and_sure(made(number))]
        self.assertEqual(told, max(fit, default=-1))
        self.assertEqual(fit, [number for number in numbers if number <= told])

    def assert_least(self, told, numbers, made):
        """Told is the least of the numbers from which on all made systems are fit; no lesser one is."""
        fit = [number for number in numbers if let_and_sure(made(number))]
        self.assertEqual(told, min(fit, default=-1))
        self.assertEqual(fit, [number for number in numbers if told != -1 and number >= told])


class WalkTest(MarginCase):
    """Each margin against a walk over all numbers that can be, on small systems, fit and unfit as they are."""

    def near(self, told, low, high):
        """All numbers near the border and near both ends; some others."""
        draw = random.Random(told)
        some = list(range(low, low + 15)) + list(range(told - 4, told + 5)) + [high - 1, high]
        some += [draw.randint(low, high) for _ in range(6)]
        return sorted({number for number in some if low <= number <= high})

    def test_longest_length(self):
        seen = set()
        for system in SYSTEMS:
            for kind, items in (("job", system[2]), ("task", system[3])):
                for index, item in enumerate(items):
                    for segment, (length, _) in enumerate(item[5]):
                        told = longest_length(system, kind, index, segment)
                        # Where nothing is told not even its own length is fit, and no greater one.
                        numbers = self.near(told, length, 1000)
                        self.assert_greatest(told, numbers, lambda n: with_length(system, kind, index, segment, n))
                        seen.add(told)
        self.assertIn(-1, seen)
        self.assertGreater(len(seen), 8)

    def test_earliest_due(self):
        seen = set()
        for system in SYSTEMS:
            for index, job in enumerate(system[2]):
                told = earliest_due(system, "job", index)
                numbers = self.near(told, job[2], 1000)
                self.assert_least(told, numbers, lambda n: with_due(system, "job", index, n))
                seen.add(told)
            for index in range(len(system[3])):
                told = earliest_due(system, "task", index)
                self.assert_least(told, self.near(told, 0, 1000), lambda n: with_due(system, "task", index, n))
                seen.add(told)
        self.assertIn(-1, seen)
        self.assertGreater(len(seen), 8)

    def test_greatest_capacity(self):
        seen = set()
        for system in SYSTEMS:
            for budget in range(len(system[1])):
                told = greatest_capacity(system, budget)
                self.assert_greatest(told, list(range(21)), lambda n: with_capacity(system, budget, n))
                seen.add(told)
        self.assertLessEqual({-1, 0, 1, 20}, seen)

    def test_least_gap(self):
        seen = set()
        for system in SYSTEMS:
            for index in range(len(system[3])):
                told = least_gap(system, index)
                self.assert_least(told, self.near(told, 1, 1000), lambda n: with_gap(system, index, n))
                seen.add(told)
        self.assertIn(-1, seen)
        self.assertGreater(len(seen), 5)

    def test_longest_new(self):
        draw = random.Random(23)
        seen = set()
        for system in SYSTEMS:
            for source in range(len(system[1])):
                release = draw.randint(0, 20)
                due = release + draw.randint(0, 60)
                told = longest_new(system, release, due, source)
                numbers = self.near(told, 1, 1000)
                self.assert_greatest(told, numbers, lambda n: with_new(system, release, due, source, n))
                seen.add(told)
        self.assertIn(-1, seen)
        self.assertGreater(len(seen), 8)

    def test_all_numbers_of_one_system(self):
        system = parse("budget all 2\nbudget disk 1 in all\njob a 0 to 40 done 1 do 4 disk 3 all\njob b 3 to 30 do 5 all\n"
                       "task c from 5 gap 25 due 20 do 2 disk 1 all\n")
        for kind, index, segment, low in (("job", 0, 0, 4), ("job", 0, 1, 3), ("job", 1, 0, 5), ("task", 0, 0, 2)):
            self.assert_greatest(longest_length(system, kind, index, segment), list(range(low, 1001)),
                                 lambda n: with_length(system, kind, index, segment, n))
        for kind, index, low in (("job", 0, 0), ("job", 1, 3), ("task", 0, 0)):
            self.assert_least(earliest_due(system, kind, index), list(range(low, 1001)),
                              lambda n: with_due(system, kind, index, n))
        self.assert_least(least_gap(system, 0), list(range(1, 1001)), lambda n: with_gap(system, 0, n))
        for release, due, source in ((0, 60, 0), (0, 30, 1), (20, 90, 1)):
            self.assert_greatest(longest_new(system, release, due, source), list(range(1, 1001)),
                                 lambda n: with_new(system, release, due, source, n))

    def test_fit_by_a_plain_walk(self):
        """The borders once more, asked of the plain walk over all intervals."""
        for system in SYSTEMS[:25]:
            for index in range(len(system[2])):
                told = earliest_due(system, "job", index)
                for due, fit in ((told, True), (told - 1, False)):
                    if told != -1 and due >= system[2][index][2]:
                        rows = plain_walk(with_due(system, "job", index, due))
                        self.assertIs(all(slack >= 0 for _, _, slack in rows), fit)
            for budget in range(len(system[1])):
                told = greatest_capacity(system, budget)
                if 0 <= told < 4:
                    self.assertTrue(all(row[2] >= 0 for row in plain_walk(with_capacity(system, budget, told))))
                    self.assertFalse(all(row[2] >= 0 for row in plain_walk(with_capacity(system, budget, told + 1))))


class BorderTest(MarginCase):
    def test_own_length_is_told_at_least(self):
        system = parse("budget cpu 0\njob a 0 to 10 do 4 cpu 6 cpu\n")
        self.assertEqual((longest_length(system, "job", 0, 0), longest_length(system, "job", 0, 1)), (4, 6))
        self.assertEqual(longest_length(with_due(system, "job", 0, 11), "job", 0, 1), 7)
        self.assertEqual(longest_length(with_due(system, "job", 0, 9), "job", 0, 1), -1)

    def test_lengths_to_1000(self):
        system = parse("budget cpu 0\njob a 0 to 1000 do 1000 cpu\n")
        self.assertEqual(longest_length(system, "job", 0, 0), 1000)
        system = parse("budget cpu 0\njob a 0 to 1000 done 999 do 1000 cpu 1 cpu\n")
        self.assertEqual((longest_length(system, "job", 0, 0), longest_length(system, "job", 0, 1)), (1000, 999))
        self.assertEqual(longest_new(parse("budget cpu 0"), 0, 1000, 0), 1000)
        self.assertEqual(longest_new(parse("budget cpu 1"), 0, 1000, 0), 500)
        self.assertEqual(longest_new(parse("budget cpu 20"), 0, 1000, 0), 47)

    def test_done_stays(self):
        # With a fault: 4 - 3 + 4 is 5 units of 9, and 6 - 3 + 6 is 9.
        system = parse("budget cpu 1\njob a 0 to 9 done 3 do 4 cpu\n")
        self.assertEqual(longest_length(system, "job", 0, 0), 6)
        self.assertEqual(earliest_due(system, "job", 0), 5)
        self.assertEqual(longest_length(parse("budget cpu 1\njob a 0 to 9 do 4 cpu\n"), "job", 0, 0), 4)
        wholly = parse("budget cpu 1\njob a 0 to 9 done 4 do 4 cpu\n")
        self.assertEqual((longest_length(wholly, "job", 0, 0), earliest_due(wholly, "job", 0)), (6, 4))

    def test_dues_begin_at_the_release(self):
        system = parse("budget cpu 0\njob a 7 to 9 done 2 do 2 cpu\ntask b from 3 gap 900 due 9 do 1 cpu\n")
        self.assertEqual(earliest_due(system, "job", 0), 7)
        self.assertEqual(earliest_due(system, "task", 0), 1)
        self.assertEqual(earliest_due(parse("budget cpu 1\njob a 990 to 995 do 5 cpu"), "job", 0), 1000)
        self.assertEqual(earliest_due(parse("budget cpu 1\njob a 990 to 995 do 6 cpu"), "job", 0), -1)

    def test_dues_of_tasks_to_1000(self):
        system = parse("budget cpu 1\ntask b from 3 gap 1000 due 9 do 500 cpu\n")
        self.assertEqual(earliest_due(system, "task", 0), 1000)
        self.assertEqual(earliest_due(with_length(system, "task", 0, 0, 501), "task", 0), -1)

    def test_capacities(self):
        system = parse("budget cpu 7\nbudget disk 5 in cpu\njob a 0 to 41 do 10 disk\njob b 0 to 30 do 1 cpu\n")
        # 11 + 3 * 10 is 41; with a capacity of 7 it is 11 + 2 * 10 + 5 * 1, or 11 + 3 * 10 + 4 * 1.
        self.assertEqual((greatest_capacity(system, 0), greatest_capacity(system, 1)), (3, 2))
        system = with_capacity(system, 0, 3)
        self.assertEqual((greatest_capacity(system, 0), greatest_capacity(system, 1)), (3, 20))
        self.assertEqual(greatest_capacity(with_due(system, "job", 0, 9), 1), -1)
        self.assertEqual(greatest_capacity(with_due(system, "job", 0, 10), 1), 0)
        self.assertEqual(greatest_capacity(with_due(system, "job", 0, 19), 1), 0)
        self.assertEqual(greatest_capacity(with_due(system, "job", 0, 20), 1), 1)
        self.assertEqual(greatest_capacity(with_due(system, "job", 0, 11), 0), 0)
        self.assertEqual(greatest_capacity(with_due(system, "job", 0, 9), 0), -1)

    def test_gaps(self):
        system = parse("budget cpu 0\ntask a from 0 gap 30 due 9 do 5 cpu\n")
        self.assertEqual(least_gap(system, 0), 6)
        full = parse("budget cpu 0\njob a 0 to 9 do 9 cpu\ntask b from 0 gap 30 due 9 do 5 cpu\n")
        self.assertEqual(least_gap(full, 0), -1)
        self.assertEqual(least_gap(parse("budget cpu 0\ntask a from 0 gap 999 due 999 do 990 cpu\n"), 0), 991)

    def test_not_fit_as_it_is(self):
        system = parse("budget cpu 1\njob a 0 to 10 do 3 cpu\njob b 2 to 5 do 2 cpu\ntask c from 0 gap 9 due 4 do 1 cpu\n")
        self.assertFalse(is_sure(system))
        self.assertEqual([longest_length(system, "job", 0, 0), longest_length(system, "job", 1, 0),
                          longest_length(system, "task", 0, 0), longest_new(system, 0, 1000, 0)], [-1] * 4)
        # What is told of dues, gaps and capacities can still make it fit.
        self.assert_least(earliest_due(system, "job", 1), list(range(2, 200)), lambda n: with_due(system, "job", 1, n))
        self.assertGreater(earliest_due(system, "job", 1), 5)
        self.assertEqual(greatest_capacity(system, 0), 0)

    def test_not_let_as_it_is(self):
        full = ("system", NONE, (), (("task", "a", 0, 10, 90, ((10, 0),)),))
        self.assertEqual(refusal(check_system, full), (0, "too full"))
        self.assertEqual((longest_length(full, "task", 0, 0), longest_new(full, 0, 900, 0)), (-1, -1))
        self.assertEqual((earliest_due(full, "task", 0), greatest_capacity(full, 0)), (-1, -1))
        self.assertEqual(least_gap(full, 0), 11)

    def test_a_new_job_that_cannot_be(self):
        system = parse("budget cpu 1\njob b 0 to 30 do 1 cpu\n")
        self.assertEqual(longest_new(system, 9, 8, 0), -1)
        self.assertEqual(longest_new(system, 0, 1001, 0), -1)
        self.assertEqual(longest_new(system, 990, 1001, 0), -1)
        self.assertEqual(longest_new(system, 1001, 1001, 0), -1)
        self.assertEqual(longest_new(system, 1001, 1000, 0), -1)
        self.assertEqual(longest_new(system, 990, 1000, 0), 5)
        self.assertEqual(longest_new(system, 1000, 1000, 0), -1)
        self.assertEqual(longest_new(system, 8, 8, 0), -1)
        self.assertEqual(longest_new(system, 8, 9, 0), -1)
        self.assertEqual(longest_new(system, 8, 10, 0), 1)

    def test_a_new_job_beside_39_others(self):
        jobs = tuple(("job", "abcdefghij"[k // 10] + "abcdefghij"[k % 10], 0, 1000, 0, ((10, 0),)) for k in range(39))
        system = ("system", NONE, jobs, ())
        self.assertEqual(longest_new(system, 0, 1000, 0), 610)

    def test_a_rate_near_1(self):
        system = ("system", NONE, (), (("task", "a", 0, 3, 500, ((1, 0),)), ("task", "b", 0, 3, 500, ((1, 0),)),
                                       ("task", "c", 0, 900, 500, ((1, 0),))))
        # The third task may take less than a third, so its gap has to be above 3.
        self.assertEqual(least_gap(system, 2), 4)
        self.assertEqual(least_gap(with_length(system, "task", 2, 0, 30), 2), 91)
        told = longest_length(system, "task", 2, 0)
        self.assert_greatest(told, list(range(1, 400)), lambda n: with_length(system, "task", 2, 0, n))
        self.assertLess(told, 300)

    def assert_too_great(self, made, told, beyond):
        """The number told is let and sure; the one beyond it is sure too, but too great."""
        self.assertTrue(let_and_sure(made(told)))
        self.assertEqual(refusal(check_system, made(beyond)), (0, "too great"))
        self.assertTrue(is_sure(made(beyond)))

    def test_systems_near_what_is_too_great(self):
        # 501 starts, so at most 199 ends, and a task that comes often.
        tasks = (("task", "a", 500, 2, 900, ((1, 0),)), ("task", "b", 0, 600, 900, ((50, 0),)))
        system = ("system", (("all", 0, -1),), (("job", "j", 0, 1000, 0, ((1, 0),)),), tasks)
        self.assertTrue(let_and_sure(system))
        told = longest_length(system, "job", 0, 0)
        self.assert_too_great(lambda n: with_length(system, "job", 0, 0, n), told, told + 1)
        told = longest_length(system, "task", 1, 0)
        self.assert_too_great(lambda n: with_length(system, "task", 1, 0, n), told, told + 1)
        told = least_gap(system, 1)
        self.assert_too_great(lambda n: with_gap(system, 1, n), told, told - 1)
        told = longest_new(system, 0, 1000, 0)
        self.assert_too_great(lambda n: with_new(system, 0, 1000, 0, n), told, told + 1)
        system = with_length(system, "job", 0, 0, 11)
        told = greatest_capacity(system, 0)
        self.assert_too_great(lambda n: with_capacity(system, 0, n), told, told + 1)


class SpeedTest(unittest.TestCase):
    def test_asked_often(self):
        names = ["abcdefghij"[k // 10] + "abcdefghij"[k % 10] for k in range(39)]
        budgets = (("all", 3, -1), ("disk", 2, 0), ("net", 1, 0), ("far", 1, 2), ("tape", 1, -1), ("end", 1, 4))
        jobs = tuple(
            ("job", name, 24 * k, min(1000, 24 * k + 300), 0, tuple((1 + (k + at) % 4, at) for at in range(6)))
            for k, name in enumerate(names)
        )
        tasks = tuple(("task", "t" + "abcde"[k], 100 * k, 150 + 50 * k, 500, ((3, k),)) for k in range(5))
        system = ("system", budgets, jobs, tasks)
        self.assertTrue(let_and_sure(system))
        began = time.perf_counter()
        for index in range(39):
            for segment in range(6):
                self.assertGreater(longest_length(system, "job", index, segment), 0)
            self.assertGreaterEqual(earliest_due(system, "job", index), jobs[index][2])
        for index in range(5):
            self.assertGreater(least_gap(system, index), 0)
            self.assertGreater(earliest_due(system, "task", index), 0)
        for budget in range(6):
            self.assertGreaterEqual(greatest_capacity(system, budget), 1)
            self.assertGreater(longest_new(system, 100, 900, budget), 0)
        # Some 300 margins; walked through number by number and interval by interval each of them takes seconds.
        self.assertLess(time.perf_counter() - began, 60)

    def test_many_ends(self):
        system = parse("budget all 1\njob j 0 to 1000 do 200 all\ntask t from 0 gap 2 due 2 do 1 all\n"
                       "task u from 0 gap 100 due 900 do 49 all\n")
        began = time.perf_counter()
        for _ in range(20):
            longest_length(system, "job", 0, 0), earliest_due(system, "job", 0), earliest_due(system, "task", 1)
            least_gap(system, 0), least_gap(system, 1), greatest_capacity(system, 0), longest_new(system, 0, 1000, 0)
        self.assertLess(time.perf_counter() - began, 30)


if __name__ == "__main__":
    unittest.main()
