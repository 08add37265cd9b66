"""Promises s1 to s5, and c1 for them."""
import copy
import unittest

from faultdue import systems as module
from faultdue.systems import check_system, horizon_of, latest_of, rate_of, work_of
from tests.helpers import NO_INTEGERS, names, put, refusal

BUDGETS = (("all", 2, -1), ("disk", 1, 0))
JOB = ("job", "a", 5, 20, 1, ((4, 1), (3, 0)))
TASK = ("task", "b", 2, 30, 7, ((2, 1), (5, 0)))
NO_SYSTEM = (0, "not a system")
TOO_FULL = (0, "too full")
TOO_GREAT = (0, "too great")

NAMES_RIGHT = ("z", "abcdefgh", "ab.3", "a.0", "a.9", "a.10", "a.123456", "a.999999", "abcdefgh.100000", "all", "job")
NAMES_WRONG = ("", "abcdefghi", "abcdefghi.1", "A", "aB", "a1", "1", "3.a", ".", ".3", "a.", "a.00", "a.01", "a.012345",
               "a.1234567", "a.1.2", "a..1", "a.b", "a.-1", "a.+1", "a.1 ", " a", "a b", "a. 1", "a\n", "a.1\n", "a.1_0",
               "a,1", "\u00e9", "a.\u0663", "a.\u00b2", None, 7, True, ("a",), ["a"])


def system_of(jobs=(), tasks=(), budgets=BUDGETS):
    return ("system", budgets, jobs, tasks)


def with_job(at, value):
    """A system of one job, with another value at an index of the job."""
    return system_of((put(JOB, at, value),), (TASK,))


def with_task(at, value):
    """A system of one task, with another value at an index of the task."""
    return system_of((JOB,), (put(TASK, at, value),))


def with_segment(segment):
    """Two systems, with this segment as the second one of a job and of a task."""
    return with_job(5, ((4, 1), segment)), with_task(5, ((2, 1), segment))


def jobs_of(many):
    return tuple(("job", name, 0, 900, 0, ((1, 0),)) for name in names(many))


def tasks_of(many):
    return tuple(("task", "t" + name, 0, 1000, 900, ((1, 0),)) for name in names(many))


def task_of(name, work, gap):
    return ("task", name, 0, gap, 900, ((work, 0),))


class CheckCase(unittest.TestCase):
    def assert_lets(self, *values):
        for value in values:
            self.assertIsNone(refusal(check_system, value), value)

    def assert_refuses(self, *values, told=NO_SYSTEM):
        for value in values:
            before = copy.deepcopy(value)
            self.assertEqual(refusal(check_system, value), told, value)
            self.assertEqual(value, before)


class InterfaceTest(unittest.TestCase):
    def test_example_of_the_texts(self):
        system = ("system", (("all", 2, -1), ("disk", 1, 0)), (("job", "a", 0, 20, 0, ((4, 1), (3, 0))),),
                  (("task", "b", 2, 30, 7, ((2, 1),)),))
        self.assertIsNone(check_system(system))

    def test_defined_in_their_file(self):
        for name in ("check_system", "work_of", "rate_of", "latest_of", "horizon_of"):
            self.assertEqual(getattr(module, name).__module__, "faultdue.systems")

    def test_nothing_handed_in_is_changed(self):
        system = system_of((JOB,), (TASK,))
        before = copy.deepcopy(system)
        for _ in range(2):
            check_system(system), work_of(JOB), work_of(TASK)
            rate_of(system), latest_of(system), horizon_of(system)
            self.assertEqual(system, before)


class SystemTest(CheckCase):
    """s3, but for the jobs and tasks themselves."""

    def test_right(self):
        self.assert_lets(system_of((JOB,), (TASK,)), system_of((JOB,)), system_of((), (TASK,)))

    def test_no_jobs_and_no_tasks(self):
        self.assert_lets(system_of(), system_of((), (), (("a", 0, -1),)))

    def test_number_of_jobs(self):
        self.assert_lets(system_of(jobs_of(40)), system_of(jobs_of(40), tasks_of(5)))
        self.assert_refuses(system_of(jobs_of(41)), system_of(jobs_of(41), tasks_of(5)))

    def test_number_of_tasks(self):
        self.assert_lets(system_of((), tasks_of(5)), system_of(jobs_of(1), tasks_of(5)))
        self.assert_refuses(system_of((), tasks_of(6)), system_of(jobs_of(1), tasks_of(6)))

    def test_names_twice(self):
        twin, far = put(JOB, 2, 6), put(TASK, 2, 3)
        self.assert_refuses(system_of((JOB, twin)), system_of((JOB, JOB)), system_of((), (TASK, far)))
        self.assert_refuses(system_of((JOB, put(JOB, 1, "c"), twin)))
        self.assert_refuses(system_of((JOB,), (put(TASK, 1, "a"),)))
        self.assert_refuses(system_of((put(JOB, 1, "b.1"),), (TASK, put(TASK, 1, "b.1"))))

    def test_names_that_only_begin_alike(self):
        self.assert_lets(system_of((put(JOB, 1, "b.1"), put(JOB, 1, "b.11"), put(JOB, 1, "b.0")), (TASK,)))

    def test_names_of_budgets_are_free_for_jobs_and_tasks(self):
        self.assert_lets(system_of((put(JOB, 1, "all"),), (put(TASK, 1, "disk"),)))

    def test_wrong_budgets(self):
        for budgets in ((), [("all", 2, -1), ("disk", 1, 0)], (("all", 21, -1), ("disk", 1, 0)), None, 2, "all",
                        (("all", 2, -1), ("all", 1, 0)), (("all", 2, 0), ("disk", 1, 0)), (("all.1", 2, -1),),
                        (("all", True, -1), ("disk", 1, 0)), tuple((name, 2, -1) for name in "abcdefg")):
            with self.subTest(budgets=budgets):
                self.assert_refuses(system_of((), (), budgets), system_of((JOB,), (TASK,), budgets))

    def test_first_word(self):
        for word in ("System", "systems", "", "job", "task", None, 0, True, ("system",), ["system"]):
            with self.subTest(word=word):
                self.assert_refuses(put(system_of((JOB,), (TASK,)), 0, word))

    def test_shapes(self):
        right = system_of((JOB,), (TASK,))
        self.assert_refuses(list(right), right[:3], right + ((),), right[1:])
        self.assert_refuses(put(right, 1, list(BUDGETS)), put(right, 2, [JOB]), put(right, 3, [TASK]))
        self.assert_refuses(put(right, 2, []), put(right, 3, []), put(right, 2, None), put(right, 3, None))
        self.assert_refuses(put(right, 2, ""), put(right, 3, 0), put(right, 2, JOB), put(right, 3, TASK))

    def test_other_things_in_place_of_the_whole(self):
        self.assert_refuses(None, True, False, 0, 4, "", "system", "abcd", (), [], ((), (), (), ()), ("system",))

    def test_deep_nests(self):
        deep = ()
        for _ in range(50000):
            deep = (deep,)
        right = system_of((JOB,), (TASK,))
        for value in [deep] + [put(right, at, deep) for at in range(4)]:
            self.assertEqual(refusal(check_system, value), NO_SYSTEM)
        for at in range(6):
            self.assertEqual(refusal(check_system, with_job(at, deep)), NO_SYSTEM)
            self.assertEqual(refusal(check_system, with_task(at, deep)), NO_SYSTEM)


class JobTest(CheckCase):
    """s2 for jobs."""

    def test_names(self):
        self.assert_lets(*[with_job(1, name) for name in NAMES_RIGHT])
        self.assert_refuses(*[with_job(1, name) for name in NAMES_WRONG])

    def test_first_word(self):
        self.assert_refuses(*[with_job(0, word) for word in ("task", "Job", "jobs", "", "system", None, 0, ("job",))])

    def test_release(self):
        self.assert_lets(*[with_job(2, release) for release in (0, 1, 19, 20)])
        self.assert_lets(system_of((put(put(JOB, 2, 1000), 3, 1000),)))
        self.assert_refuses(*[with_job(2, release) for release in (-1, 21) + NO_INTEGERS])
        self.assert_refuses(system_of((put(put(JOB, 2, 1001), 3, 1001),)))

    def test_due(self):
        self.assert_lets(*[with_job(3, due) for due in (5, 6, 1000)])
        self.assert_refuses(*[with_job(3, due) for due in (4, 0, -1, 1001) + NO_INTEGERS])
        self.assert_refuses(*[system_of((put(put(JOB, 2, 0), 3, due),)) for due in (-1, True, False)])

    def test_done(self):
        self.assert_lets(*[with_job(4, done) for done in (0, 1, 3, 4)])
        # The second segment is longer: only the first one bounds done.
        longer = put(JOB, 5, ((4, 1), (9, 0)))
        self.assert_lets(system_of((put(longer, 4, 4),)))
        self.assert_refuses(system_of((put(longer, 4, 5),)))
        self.assert_refuses(*[with_job(4, done) for done in (-1, 5, 7, 1000) + NO_INTEGERS])

    def test_number_of_segments(self):
        self.assert_lets(*[with_job(5, ((4, 1),) * many) for many in range(1, 7)])
        self.assert_refuses(with_job(5, ()), with_job(5, ((4, 1),) * 7))

    def test_shapes(self):
        self.assert_refuses(system_of((list(JOB),)), system_of((JOB[:5],)), system_of((JOB + (0,),)))
        self.assert_refuses(system_of((JOB[1:],)), system_of(((),)), system_of((None,)), system_of(("abcdef",)))
        self.assert_refuses(*[with_job(5, segments) for segments in ([(4, 1), (3, 0)], None, 4, "ab", (4, 1))])
        self.assert_refuses(system_of((TASK,)), system_of((JOB,), (put(JOB, 1, "c"),)))

    def test_each_job_is_looked_at(self):
        self.assert_refuses(system_of((JOB, put(put(JOB, 1, "c"), 3, 4))), system_of((put(JOB, 3, 4), put(JOB, 1, "c"))))


class TaskTest(CheckCase):
    """s2 for tasks."""

    def test_names(self):
        self.assert_lets(*[with_task(1, name) for name in NAMES_RIGHT])
        self.assert_refuses(*[with_task(1, name) for name in NAMES_WRONG])

    def test_first_word(self):
        self.assert_refuses(*[with_task(0, word) for word in ("job", "Task", "tasks", "", "system", None, 0, ["task"])])

    def test_first(self):
        self.assert_lets(*[with_task(2, first) for first in (0, 1, 31, 1000)])
        self.assert_refuses(*[with_task(2, first) for first in (-1, 1001) + NO_INTEGERS])

    def test_gap(self):
        self.assert_lets(*[with_task(3, gap) for gap in (8, 30, 999, 1000)])
        self.assert_refuses(*[with_task(3, gap) for gap in (0, -1, 1001) + NO_INTEGERS])
        # A gap of 1 is right by s2, but any work is too much for it.
        self.assert_refuses(with_task(3, 1), told=TOO_FULL)

    def test_due(self):
        self.assert_lets(*[with_task(4, due) for due in (0, 1, 2, 1000)])
        self.assert_refuses(*[with_task(4, due) for due in (-1, 1001) + NO_INTEGERS])

    def test_number_of_segments(self):
        self.assert_lets(*[with_task(5, ((2, 1),) * many) for many in range(1, 7)])
        self.assert_refuses(with_task(5, ()), with_task(5, ((2, 1),) * 7))

    def test_shapes(self):
        self.assert_refuses(system_of((), (list(TASK),)), system_of((), (TASK[:5],)), system_of((), (TASK + (0,),)))
        self.assert_refuses(system_of((), (TASK[1:],)), system_of((), ((),)), system_of((), (None,)))
        self.assert_refuses(*[with_task(5, segments) for segments in ([(2, 1)], None, 4, "ab", (2, 1))])

    def test_each_task_is_looked_at(self):
        other = put(TASK, 1, "c")
        self.assert_lets(system_of((), (TASK, other)))
        self.assert_refuses(system_of((), (TASK, put(other, 4, -1))), system_of((), (put(TASK, 4, -1), other)))


class SegmentTest(CheckCase):
    """s1."""

    def test_length(self):
        for length in (1, 2, 1000):
            self.assert_lets(with_segment((length, 0))[0])
        self.assert_lets(*with_segment((1, 0)))
        self.assert_lets(system_of((), (put(put(TASK, 3, 1000), 5, ((997, 1), (2, 0))),)))
        self.assert_refuses(with_segment((1000, 0))[1], told=TOO_FULL)
        for length in (0, -1, 1001) + NO_INTEGERS:
            self.assert_refuses(*with_segment((length, 0)))

    def test_source(self):
        for source in (0, 1):
            self.assert_lets(*with_segment((3, source)))
        for source in (-1, 2, 6, "all") + NO_INTEGERS:
            self.assert_refuses(*with_segment((3, source)))
        one = put(JOB, 5, ((4, 0),))
        self.assert_lets(system_of((one,), (), BUDGETS[:1]))
        self.assert_refuses(system_of((JOB,), (), BUDGETS[:1]), system_of((), (TASK,), BUDGETS[:1]))

    def test_shapes(self):
        for segment in ((3,), (3, 0, 0), (), [3, 0], None, 3, "ab", ((3, 0),)):
            self.assert_refuses(*with_segment(segment))

    def test_first_segment_too(self):
        for segment in ((0, 1), (1001, 1), (4, 2), (True, 1), [4, 1], (4,), None):
            self.assert_refuses(with_job(5, (segment, (3, 0))), with_task(5, (segment, (3, 0))))


class NumbersTest(unittest.TestCase):
    """s3 and s4."""

    def test_work(self):
        self.assertEqual(work_of(JOB), 6)
        self.assertEqual(work_of(put(JOB, 4, 0)), 7)
        self.assertEqual(work_of(put(JOB, 4, 4)), 3)
        self.assertEqual(work_of(("job", "a", 0, 9, 4, ((4, 0),))), 0)
        self.assertEqual(work_of(("job", "a", 0, 9, 0, ((1000, 0),) * 6)), 6000)

    def test_work_of_a_task(self):
        # The fifth item of a task is its due, which takes nothing off.
        self.assertEqual(work_of(TASK), 7)
        self.assertEqual(work_of(put(TASK, 4, 0)), 7)
        self.assertEqual(work_of(put(TASK, 5, ((3, 1), (3, 1), (1, 0)))), 7)

    def test_rate_without_tasks(self):
        self.assertEqual(rate_of(system_of()), (0, 1))
        self.assertEqual(rate_of(system_of((JOB,))), (0, 1))

    def test_rate_in_lowest_terms(self):
        self.assertEqual(rate_of(system_of((), (TASK,))), (7, 30))
        self.assertEqual(rate_of(system_of((JOB,), (task_of("b", 10, 40),))), (1, 4))
        self.assertEqual(rate_of(system_of((), (task_of("b", 1, 6), task_of("c", 1, 10)))), (4, 15))
        self.assertEqual(rate_of(system_of((), (task_of("b", 1, 4), task_of("c", 2, 8)))), (1, 2))
        self.assertEqual(rate_of(system_of((), tuple(task_of(name, 3, 27) for name in "bcdef"))), (5, 9))
        self.assertEqual(rate_of(system_of((), (task_of("b", 999, 1000),))), (999, 1000))

    def test_latest(self):
        self.assertEqual(latest_of(system_of()), 0)
        self.assertEqual(latest_of(system_of((JOB,))), 5)
        self.assertEqual(latest_of(system_of((), (TASK,))), 2)
        self.assertEqual(latest_of(system_of((JOB,), (TASK,))), 5)
        self.assertEqual(latest_of(system_of((JOB,), (put(TASK, 2, 9),))), 9)
        self.assertEqual(latest_of(system_of((JOB, put(JOB, 2, 12), put(JOB, 2, 3)), (TASK,))), 12)
        self.assertEqual(latest_of(system_of((put(JOB, 2, 0),))), 0)

    def test_horizon_of_nothing(self):
        self.assertEqual(horizon_of(system_of()), 0)

    def test_horizon_is_jobs_tasks_and_recovery(self):
        none = (("all", 0, -1), ("disk", 0, 0))
        self.assertEqual(horizon_of(system_of((JOB,), (), none)), 6)
        self.assertEqual(horizon_of(system_of((JOB, put(JOB, 4, 0)), (), none)), 13)
        # One fault of disk and one more of all: 4 + 3.
        self.assertEqual(horizon_of(system_of((JOB,))), 13)
        # The longest segments of job and task are 4 with disk and 5 with all: two faults of all.
        self.assertEqual(horizon_of(system_of((JOB,), (put(TASK, 3, 1000),))), -((6 + 7 + 10) * 1000 // -993))

    def test_recovery_takes_the_longest_segment_of_any_item_whole(self):
        budgets = (("a", 3, -1), ("b", 2, -1))
        long = ("job", "a", 0, 9, 5, ((6, 0),))
        short = ("job", "b", 0, 9, 0, ((2, 0), (4, 0)))
        self.assertEqual(horizon_of(system_of((long, short), (), budgets)), 1 + 6 + 3 * 6)
        self.assertEqual(horizon_of(system_of((short, long), (), budgets)), 1 + 6 + 3 * 6)
        done = ("job", "c", 0, 9, 8, ((8, 1),))
        self.assertEqual(horizon_of(system_of((short, done), (), budgets)), 6 + 3 * 4 + 2 * 8)

    def test_horizon_is_rounded_up(self):
        none = (("all", 0, -1),)
        # 7 divided by 2/3, and 8 divided by 2/3.
        self.assertEqual(horizon_of(system_of((), (task_of("b", 7, 21),), none)), 11)
        self.assertEqual(horizon_of(system_of((), (task_of("b", 8, 24),), none)), 12)
        # 10 divided by 1/2 divides evenly; 10 divided by 9/10 and by 3/4 does not.
        self.assertEqual(horizon_of(system_of((), (task_of("b", 10, 20),), none)), 20)
        self.assertEqual(horizon_of(system_of((), (task_of("b", 10, 100),), none)), 12)
        self.assertEqual(horizon_of(system_of((), (task_of("b", 10, 40),), none)), 14)
        self.assertEqual(horizon_of(system_of((), (task_of("b", 999, 1000),), none)), 999000)

    def test_horizon_with_several_tasks(self):
        none = (("all", 0, -1),)
        two = (task_of("b", 1, 6), task_of("c", 1, 10))
        self.assertEqual(horizon_of(system_of((), two, none)), 3)
        self.assertEqual(horizon_of(system_of((put(JOB, 5, ((20, 0),)),), two, none)), 29)


class RefusalTest(CheckCase):
    """s5."""

    def test_rate_of_one_is_too_full(self):
        for tasks in ((task_of("b", 5, 5),), (task_of("b", 1, 2), task_of("c", 2, 4)),
                      (task_of("b", 1, 3), task_of("c", 2, 3)), (task_of("b", 1, 1),)):
            self.assert_refuses(system_of((), tasks), told=TOO_FULL)

    def test_rate_above_one_is_too_full(self):
        for tasks in ((task_of("b", 6, 5),), (task_of("b", 1, 1), task_of("c", 1, 1)), (task_of("b", 1000, 1),),
                      (task_of("b", 1, 3), task_of("c", 2, 3), task_of("d", 1, 1000))):
            self.assert_refuses(system_of((), tasks), told=TOO_FULL)

    def test_rate_just_below_one(self):
        none = (("all", 0, -1),)
        self.assert_lets(system_of((), (task_of("b", 999, 1000),), none), system_of((), (task_of("b", 1, 2),), none))
        self.assert_lets(system_of((), (task_of("b", 1, 3), task_of("c", 199, 300)), none))

    def test_exactly_100000(self):
        none = (("all", 0, -1),)
        # The horizon is twice the work J + 1, so there are 17 + 1 + 1 + J + 1 ends and one start.
        full = tuple(("job", name, 0, 900, 0, ((1000, 0),) * 6) for name in names(16))
        last = ("job", "x", 0, 900, 0, ((1000, 0), (1000, 0), (1000, 0), (980, 0)))
        tasks = (task_of("t", 1, 2),)
        self.assert_lets(system_of(full + (last,), tasks, none))
        above = put(last, 5, last[5][:3] + ((981, 0),))
        self.assert_refuses(system_of(full + (above,), tasks, none), told=TOO_GREAT)
        # What is done is taken off again.
        self.assert_lets(system_of(full + (put(above, 4, 1),), tasks, none))

    def test_exactly_100000_with_many_starts(self):
        none = (("all", 0, -1),)
        # 1000 starts; 40 jobs with 521 units and a task, horizon 580: 40 + 1 + 1 + 58 ends.
        jobs = tuple(("job", name, 999, 999, 0, ((13, 0),)) for name in names(39))
        jobs = jobs + (("job", "x", 0, 900, 0, ((14, 0),)),)
        task = task_of("t", 1, 10)
        self.assert_lets(system_of(jobs, (task,), none))
        self.assert_refuses(system_of(jobs, (put(task, 2, 1000),), none), told=TOO_GREAT)
        self.assert_refuses(system_of(put(jobs, 0, put(put(jobs[0], 2, 1000), 3, 1000)), (task,), none), told=TOO_GREAT)
        longer = put(jobs, 39, ("job", "x", 0, 900, 0, ((22, 0),)))
        self.assertEqual(horizon_of(system_of(longer, (task,), none)), 589)
        self.assert_lets(system_of(longer, (task,), none))
        longest = put(jobs, 39, ("job", "x", 0, 900, 0, ((23, 0),)))
        self.assertEqual(horizon_of(system_of(longest, (task,), none)), 590)
        self.assert_refuses(system_of(longest, (task,), none), told=TOO_GREAT)

    def test_each_task_counts_for_itself(self):
        none = (("all", 0, -1),)
        # 100 starts; rate 1/2, all works 990, horizon 1980: 7 + 1 + (1 + 660) + (1 + 330) ends.
        tasks = (task_of("t", 1, 3), task_of("u", 1, 6))
        seven = tuple(("job", name, 99, 900, 0, ((1, 0),)) for name in names(6))
        seven = seven + (("job", "x", 0, 900, 0, ((982, 0),)),)
        self.assertEqual(horizon_of(system_of(seven, tasks, none)), 1980)
        self.assert_lets(system_of(seven, tasks, none))
        eight = put(seven, 6, ("job", "x", 0, 900, 0, ((981, 0),))) + (("job", "y", 0, 900, 0, ((1, 0),)),)
        self.assertEqual(horizon_of(system_of(eight, tasks, none)), 1980)
        self.assert_refuses(system_of(eight, tasks, none), told=TOO_GREAT)

    def test_faults_can_make_a_system_too_great(self):
        jobs = tuple(("job", name, 999, 999, 0, ((13, 0),)) for name in names(40))
        task = task_of("t", 1, 10)
        self.assert_lets(system_of(jobs, (task,), (("all", 0, -1),)))
        self.assert_refuses(system_of(jobs, (task,), (("all", 1, -1),)), told=TOO_GREAT)

    def test_without_tasks_nothing_is_too_great(self):
        jobs = tuple(("job", name, 1000, 1000, 0, ((1000, 0),) * 6) for name in names(40))
        self.assert_lets(system_of(jobs))

    def test_not_a_system_comes_first(self):
        full = (task_of("t", 9, 5),)
        self.assert_refuses(system_of((put(JOB, 1, "A"),), full), system_of((JOB,), put(full, 0, put(full[0], 4, -1))))
        self.assert_refuses(system_of((), full, ()), system_of((JOB, JOB), full))
        huge = tuple(("job", name, 1000, 1000, 0, ((1000, 0),) * 6) for name in names(40))
        self.assert_refuses(system_of(huge, (task_of("t", 1, 2),)), told=TOO_GREAT)
        self.assert_refuses(system_of(huge + (put(JOB, 1, "x"),), (task_of("t", 1, 2),)))

    def test_too_full_comes_before_too_great(self):
        huge = tuple(("job", name, 1000, 1000, 0, ((1000, 0),) * 6) for name in names(40))
        self.assert_refuses(system_of(huge, (task_of("t", 1, 2),)), told=TOO_GREAT)
        self.assert_refuses(system_of(huge, (task_of("t", 2, 2),)), told=TOO_FULL)
        self.assert_refuses(system_of(huge, (task_of("t", 3, 2),)), told=TOO_FULL)


if __name__ == "__main__":
    unittest.main()
