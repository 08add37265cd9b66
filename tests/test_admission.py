"""Promises d2 and p2, g1's word fit, and c1 for them."""
import copy
import time
import unittest

from faultdue import admission as module
from faultdue.admission import crowded, is_fit, is_sure, paper_of, tightest
from faultdue.demand import analysis
from faultdue.judge import judge
from faultdue.recovery import worst
from faultdue.systems import check_system, horizon_of, latest_of
from faultdue.text import parse
from tests.helpers import drawn_systems, plain_penalties, plain_slack, plain_walk, put, refusal

SYSTEMS = drawn_systems(250, seed=5)
# One start has many ends: a rate near 1, and a horizon of 45,000.
LONG = ("budget all 1\njob j 0 to 1000 do 200 all\ntask t from 0 gap 2 due 2 do 1 all\n"
        "task u from 0 gap 100 due 900 do 49 all\n")
MANY = 40


def many_jobs():
    """A sure system of 40 jobs with many starts and many different penalties, near what is too great."""
    names = ["abcdefghij"[k // 10] + "abcdefghij"[k % 10] for k in range(MANY)]
    budgets = (("all", 3, -1), ("disk", 2, 0), ("net", 1, 0), ("far", 1, 2), ("tape", 1, -1), ("end", 1, 4))
    jobs = tuple(
        ("job", names[k], 24 * k, min(1000, 24 * k + 300), 0, tuple((1 + (k + at) % 4, at) for at in range(6)))
        for k in range(MANY)
    )
    tasks = tuple(("task", "t" + "abcde"[k], 100 * k, 150 + 50 * k, 500, ((3, k),)) for k in range(5))
    return ("system", budgets, jobs, tasks)


class InterfaceTest(unittest.TestCase):
    def test_example(self):
        self.assertEqual(paper_of(parse("budget cpu 1\njob a 0 to 5 do 3 cpu\n")), ("unsure", 0, 5, (1,)))

    def test_defined_in_their_file(self):
        for name in ("is_sure", "tightest", "crowded", "paper_of"):
            self.assertEqual(getattr(module, name).__module__, "faultdue.admission")

    def test_nothing_handed_in_is_changed(self):
        for system in SYSTEMS[:10]:
            before = copy.deepcopy(system)
            for _ in range(2):
                is_sure(system), tightest(system), crowded(system), paper_of(system), is_fit(system)
                self.assertEqual(system, before)


class SureTest(unittest.TestCase):
    def test_both_kinds_are_drawn(self):
        told = [is_sure(system) for system in SYSTEMS]
        self.assertGreater(told.count(True), 60)
        self.assertGreater(told.count(False), 60)

    def test_against_a_plain_walk(self):
        for system in SYSTEMS:
            rows = plain_walk(system)
            self.assertIs(is_sure(system), all(slack >= 0 for _, _, slack in rows), system)
            self.assertEqual(crowded(system), [row for row in rows if row[2] < 0], system)
            least = min([slack for _, _, slack in rows], default=0)
            first = next((row for row in rows if row[2] == least), ())
            self.assertEqual(tightest(system), first, system)

    def test_no_interval_at_all_is_crowded_if_it_is_sure(self):
        for system in SYSTEMS:
            if not is_sure(system):
                continue
            latest, horizon = latest_of(system), horizon_of(system)
            for s in list(range(latest + 1)) + [latest + 1, latest + 7, latest + horizon]:
                for length in list(range(0, horizon + 2, 3)) + [horizon + 1, horizon + 50, 2 * horizon + 9]:
                    self.assertGreaterEqual(plain_slack(system, s, s + length), 0, (system, s, length))

    def test_just_sure(self):
        # Work 5, one fault with 3: needs 8.
        text = "budget cpu 1\njob a 2 to {} do 3 cpu 2 cpu\n"
        self.assertIs(is_sure(parse(text.format(10))), True)
        self.assertIs(is_sure(parse(text.format(9))), False)

    def test_a_start_that_is_no_release(self):
        # With s = 1 to 5 the job has less room than with 0, but is out of it.
        system = parse("budget cpu 0\njob a 0 to 5 do 5 cpu\ntask b from 6 gap 9 due 4 do 4 cpu\n")
        self.assertIs(is_sure(system), True)
        self.assertEqual(tightest(system), (0, 5, 0))

    def test_crowded_only_behind_latest_of_the_jobs(self):
        system = parse("budget cpu 0\njob a 0 to 30 do 1 cpu\ntask b from 50 gap 10 due 3 do 4 cpu\n")
        self.assertIs(is_sure(system), False)
        # A shorter interval does not hold a body, one of two ends has room again.
        self.assertEqual(crowded(system)[-1], (50, 53, -1))
        self.assertEqual([row for row in crowded(system) if row[0] < 50], [])

    def test_a_job_wholly_done_can_be_late(self):
        text = "budget cpu 1\njob a 5 to {} done 4 do 4 cpu\n"
        self.assertIs(is_sure(parse(text.format(9))), True)
        self.assertIs(is_sure(parse(text.format(8))), False)
        self.assertEqual(crowded(parse(text.format(5)))[-1], (5, 5, -4))

    def test_without_jobs_and_tasks(self):
        system = parse("budget cpu 1")
        self.assertIs(is_sure(system), True)
        self.assertEqual((tightest(system), crowded(system), paper_of(system)), ((), [], ("sure", ())))

    def test_without_an_interval(self):
        # The horizon is 2, and the job is due far behind it.
        system = parse("budget cpu 1\njob a 5 to 90 do 1 cpu\n")
        self.assertEqual((is_sure(system), tightest(system), crowded(system)), (True, (), []))
        self.assertEqual(paper_of(system), ("sure", ()))

    def test_the_horizon_itself_is_an_end(self):
        system = parse("budget cpu 1\njob a 5 to 7 do 1 cpu\n")
        self.assertEqual(tightest(system), (5, 7, 0))

    def test_the_first_of_several_is_the_tightest(self):
        system = parse("budget cpu 0\njob a 0 to 6 do 3 cpu\njob b 6 to 12 do 3 cpu\njob c 3 to 4 do 1 cpu\n")
        self.assertEqual(tightest(system), (3, 4, 0))
        system = parse("budget cpu 0\njob a 0 to 6 do 3 cpu\njob b 6 to 9 do 3 cpu\njob c 3 to 6 do 3 cpu\n")
        self.assertEqual(tightest(system), (0, 6, 0))

    def test_kinds(self):
        self.assertIsInstance(crowded(SYSTEMS[0]), list)
        for row in crowded(parse("budget cpu 1\njob a 0 to 5 do 3 cpu\n")):
            self.assertIsInstance(row, tuple)

    def test_too_great_for_check_system(self):
        task = ("task", "t", 1000, 2, 2, ((1, 0),))
        jobs = tuple(("job", "j" + "abcd"[k], 200 * k, 1000, 0, ((50, 0),)) for k in range(4))
        system = ("system", (("all", 2, -1),), jobs, (task, ("task", "u", 0, 1000, 1000, ((400, 0),))))
        self.assertEqual(refusal(check_system, system), (0, "too great"))
        self.assertIs(is_sure(system), False)
        small = put(system, 3, (task, ("task", "u", 0, 1000, 1000, ((100, 0),))))
        small = put(small, 2, jobs + tuple(("job", "k" + "abcd"[k], 999, 1000, 0, ((1, 0),)) for k in range(1)))
        self.assertEqual(refusal(check_system, small), (0, "too great"))
        self.assertIs(is_sure(small), False)
        roomy = put(put(system, 1, (("all", 0, -1),)), 3, (task, ("task", "u", 0, 1000, 900, ((100, 0),))))
        roomy = put(roomy, 2, (("job", "a", 0, 1000, 0, ((200, 0),)), ("job", "b", 990, 1000, 0, ((8, 0),))))
        self.assertEqual(refusal(check_system, roomy), (0, "too great"))
        self.assertIs(is_sure(roomy), True)
        self.assertIs(is_sure(put(roomy, 2, roomy[2] + (("job", "c", 991, 1000, 0, ((3, 0),)),))), False)

    def test_great_systems_are_quick(self):
        for system in (parse(LONG), many_jobs()):
            began = time.perf_counter()
            for _ in range(20):
                self.assertIs(is_sure(system), True)
            paper = paper_of(system)
            self.assertIs(judge(system, paper), True)
            self.assertEqual(crowded(system), [])
            # A plain walk over all intervals and all jobs takes some seconds each time.
            self.assertLess(time.perf_counter() - began, 10)


class FitTest(unittest.TestCase):
    def test_fit(self):
        for system in SYSTEMS[:60]:
            self.assertIs(is_fit(system), is_sure(system))

    def test_what_check_system_refuses_is_not_fit(self):
        task = ("task", "t", 0, 2, 1000, ((1, 0),))
        budgets = (("all", 0, -1),)
        self.assertIs(is_fit(("system", budgets, (), (task,))), True)
        self.assertIs(is_fit(("system", budgets, (), (put(task, 2, 1000),))), True)
        self.assertIs(is_fit(("system", budgets, (), (put(task, 3, 1),))), False)
        self.assertIs(is_fit(("system", budgets, (), (put(task, 3, 1001),))), False)
        job = ("job", "a", 0, 1000, 0, ((100, 0),))
        self.assertIs(is_fit(("system", budgets, (job,), (task,))), True)
        self.assertIs(is_fit(("system", budgets, (job,), (put(task, 2, 1000),))), False)


class PaperTest(unittest.TestCase):
    """p2."""

    def assert_paper(self, system):
        paper = paper_of(system)
        self.assertIs(judge(system, paper), True, system)
        self.assertEqual(paper_of(system), paper)
        rows = plain_walk(system)
        wrong = [row for row in rows if row[2] < 0]
        if wrong:
            s, e, _ = wrong[0]
            self.assertEqual(paper, ("unsure", s, e, worst(system[1], plain_penalties(system, s, e))[1]), system)
        else:
            told = []
            for s, e, _ in rows:
                prices = analysis(system, s, e)[4]
                if prices not in told:
                    told.append(prices)
            self.assertEqual(paper, ("sure", tuple(told)), system)

    def test_drawn_systems(self):
        for system in SYSTEMS:
            self.assert_paper(system)

    def test_rows_in_their_order(self):
        system = parse("budget all 2\nbudget disk 1 in all\njob a 0 to 9 do 2 all\njob b 0 to 12 do 3 disk 1 all\n"
                       "job c 3 to 15 do 3 all\n")
        self.assertEqual(paper_of(system), ("sure", ((2, 0), (2, 1), (3, 0))))
        self.assert_paper(system)

    def test_the_first_crowded_interval(self):
        system = parse("budget all 2\nbudget disk 1 in all\njob a 0 to 9 do 1 all\njob b 1 to 7 do 4 disk\n"
                       "job c 1 to 9 do 2 all\n")
        self.assertEqual(crowded(system)[0], (0, 7, -1))
        self.assertEqual(crowded(system)[1][:2], (0, 9))
        self.assertEqual(paper_of(system), ("unsure", 0, 7, (0, 1)))
        self.assert_paper(system)


if __name__ == "__main__":
    unittest.main()
