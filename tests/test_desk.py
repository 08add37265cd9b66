"""Promises k1 to k5 and k8, and c1 for them."""
import copy
import unittest

from faultdue import desk as module
from faultdue.admission import is_sure, paper_of
from faultdue.desk import Desk
from faultdue.errors import BadState
from faultdue.judge import judge
from faultdue.systems import check_system
from tests.helpers import NO_INTEGERS, names, put, refusal
from tests.plain_desk import outcome, seen

BUDGETS = (("all", 2, -1), ("disk", 1, 0))
NONE = (("all", 0, -1),)
JOB = ("job", "a", 0, 40, ((3, 0), (2, 1)))
TASK = ("task", "t", 5, 20, 15, ((2, 1),))
NO_SYSTEM = ("BadSystem", 0, "not a system")


def desk_of(budgets, *things):
    """A desk that has admitted these."""
    desk = Desk(budgets)
    for thing in things:
        if desk.admit(thing) != ("admitted",):
            raise AssertionError(thing)
    return desk


def job_of(name, release=0, due=1000, length=1, source=0):
    return ("job", name, release, due, ((length, source),))


def task_of(name, first=0, gap=1000, due=1000, length=1, source=0):
    return ("task", name, first, gap, due, ((length, source),))


def pending_desk():
    """A desk with a report pending for the job a."""
    desk = desk_of(BUDGETS, JOB, TASK)
    desk.run(100)
    return desk


def full_desk():
    """A desk with 500 entries in its log."""
    desk = desk_of(BUDGETS, JOB, TASK)
    for _ in range(498):
        desk.run(0)
    return desk


class DeskCase(unittest.TestCase):
    def assert_nothing_changes(self, desk, told, word, *values):
        """The deed gives back this, or raises it, and the desk is as before."""
        before = seen(desk)
        handed = copy.deepcopy(values)
        self.assertEqual(outcome(getattr(desk, word), *values), told, (word, values))
        self.assertEqual(seen(desk), before)
        self.assertEqual(values, handed)


class InterfaceTest(DeskCase):
    def test_example(self):
        desk = Desk((("all", 1, -1),))
        one = desk.admit(("job", "a", 0, 7, ((2, 0),)))
        two = desk.admit(("job", "b", 1, 4, ((2, 0),)))
        three = desk.admit(("job", "b", 1, 4, ((1, 0),)))
        self.assertEqual(
            (one, two, three, desk.run(10), desk.pending()),
            (('admitted',), ('refused', ('unsure', 1, 4, (1,))), ('admitted',),
             ((0, 1, 'a', 0, 0), (1, 2, 'b', 0, 0)), 'b'),
        )

    def test_methods_stand_in_the_class_itself(self):
        self.assertEqual(Desk.__module__, module.__name__)
        for name in ("admit", "arrive", "cancel", "grant", "run", "report", "undo", "now", "pending", "remaining",
                     "finished", "log"):
            self.assertIn(name, vars(Desk))

    def test_at_the_beginning(self):
        self.assertEqual(seen(Desk(BUDGETS)), (0, "", ("system", BUDGETS, (), ()), (), ()))

    def test_wrong_budgets(self):
        for budgets in ((), [], None, "all", (("all", 21, -1),), (("all", True, -1),), (("a", 1, -1), ("a", 1, 0)),
                        (("all", 1, 0),), [("all", 1, -1)], (["all", 1, -1],), (("A", 1, -1),),
                        tuple((name, 1, -1) for name in "abcdefg")):
            self.assertEqual(outcome(Desk, budgets), ("BadSystem", 0, "not budgets"), budgets)

    def test_deeds_of_which_nothing_is_told_give_back_none(self):
        desk = pending_desk()
        self.assertIsNone(desk.report(True))
        self.assertIsNone(desk.cancel("a"))
        self.assertIsNone(desk.undo())

    def test_kinds(self):
        desk = pending_desk()
        desk.report(False)
        for told in (desk.admit(job_of("z", 3)), desk.run(20), desk.remaining(), desk.finished(), desk.log()):
            self.assertIsInstance(told, tuple)

    def test_what_is_given_back_does_not_change_later(self):
        desk = desk_of(BUDGETS, JOB)
        told = seen(desk)
        kept = copy.deepcopy(told)
        desk.run(30), desk.report(True), desk.run(30), desk.report(False)
        self.assertEqual(told, kept)

    def test_two_desks_do_not_meet(self):
        one, two = Desk(BUDGETS), Desk(BUDGETS)
        one.admit(JOB), one.run(9)
        self.assertEqual(seen(two), seen(Desk(BUDGETS)))


class RemainingTest(DeskCase):
    """k1 and k2."""

    def test_behind_each_kind_of_deed(self):
        desk = Desk(BUDGETS)
        late = ("job", "late", 30, 90, ((1, 0),))
        first = ("job", "a", 0, 40, 0, ((3, 0), (2, 1)))
        other = ("job", "late", 30, 90, 0, ((1, 0),))
        task = ("task", "t", 5, 20, 15, ((2, 1),))
        desk.admit(late)
        self.assertEqual(desk.remaining(), ("system", BUDGETS, (other,), ()))
        desk.admit(TASK)
        self.assertEqual(desk.remaining(), ("system", BUDGETS, (other,), (task,)))
        desk.admit(JOB)
        # In the order in which they came in, whatever their release.
        self.assertEqual(desk.remaining(), ("system", BUDGETS, (other, first), (task,)))
        desk.run(2)
        first = ("job", "a", 2, 40, 2, ((3, 0), (2, 1)))
        self.assertEqual(desk.remaining(), ("system", BUDGETS, (other, first), (task,)))
        desk.run(9)
        first = ("job", "a", 3, 40, 3, ((3, 0), (2, 1)))
        self.assertEqual(desk.remaining(), ("system", BUDGETS, (other, first), (task,)))
        desk.report(True)
        left = (("all", 1, -1), ("disk", 1, 0))
        self.assertEqual(desk.remaining(), ("system", left, (other, put(first, 4, 0)), (task,)))
        desk.run(6), desk.report(False)
        first = ("job", "a", 6, 40, 0, ((2, 1),))
        later = put(task, 2, 6)
        self.assertEqual(desk.remaining(), ("system", left, (other, first), (later,)))
        desk.arrive("t")
        body = ("job", "t.0", 6, 21, 0, ((2, 1),))
        self.assertEqual(desk.remaining(), ("system", left, (other, first, body), (put(task, 2, 26),)))
        desk.run(8), desk.report(True)
        spent = (("all", 0, -1), ("disk", 0, 0))
        self.assertEqual(desk.remaining()[1], spent)
        desk.grant(1, 3)
        self.assertEqual(desk.remaining()[1], (("all", 0, -1), ("disk", 3, 0)))
        desk.cancel("late")
        self.assertEqual(desk.remaining()[2], (put(first, 2, 8), put(body, 2, 8)))
        desk.cancel("t")
        self.assertEqual(desk.remaining()[2:], ((put(first, 2, 8), put(body, 2, 8)), ()))

    def test_releases_and_firsts_are_at_least_now(self):
        desk = desk_of(NONE, job_of("a", 0, 1000, 500), job_of("b", 30, 1000), task_of("t", 3), task_of("u", 900))
        for now in (0, 2, 3, 4, 29, 30, 31, 400):
            desk.run(now)
            _, _, jobs, tasks = desk.remaining()
            self.assertEqual([job[2] for job in jobs], [now, max(30, now)])
            self.assertEqual([task[2] for task in tasks], [max(3, now), 900])
        self.assertEqual(jobs[0][4], 400)

    def test_a_job_that_waits_is_released_now(self):
        desk = desk_of(NONE, job_of("a", 0, 1000, 5), job_of("b", 0, 500, 4))
        desk.run(3)
        self.assertEqual(desk.remaining()[2], (("job", "a", 3, 1000, 0, ((5, 0),)), ("job", "b", 3, 500, 3, ((4, 0),))))

    def test_a_task_whose_first_is_above_1000(self):
        desk = desk_of(NONE, task_of("t", 0, 500, 100), task_of("u", 0, 400, 100))
        desk.run(500), desk.arrive("t"), desk.run(501), desk.report(False)
        # Its first is 1000.
        self.assertEqual([task[1:3] for task in desk.remaining()[3]], [("t", 1000), ("u", 501)])
        desk.arrive("u"), desk.run(502), desk.report(False)
        desk.run(600)
        desk.cancel("t")
        desk.admit(task_of("v", 600, 401, 100)), desk.arrive("v"), desk.run(601), desk.report(False)
        # One above 1000 is left out, but it is active.
        self.assertEqual([task[1:3] for task in desk.remaining()[3]], [("u", 901)])
        self.assert_nothing_changes(desk, NO_SYSTEM, "admit", task_of("v", 700))
        self.assert_nothing_changes(desk, NO_SYSTEM, "admit", job_of("v", 700))
        self.assert_nothing_changes(desk, "BadState", "arrive", "v")
        desk.cancel("v")
        self.assertEqual(desk.admit(task_of("v", 700)), ("admitted",))

    def test_left_out_tasks_are_counted(self):
        desk = desk_of(NONE, *[task_of("t" + name, 0, 1000, 900) for name in "abcde"])
        desk.run(1), desk.arrive("ta"), desk.run(2), desk.report(False)
        self.assertEqual(len(desk.remaining()[3]), 4)
        self.assert_nothing_changes(desk, NO_SYSTEM, "admit", task_of("z", 2, 1000, 900))
        desk.cancel("ta")
        self.assertEqual(desk.admit(task_of("z", 2, 1000, 900)), ("admitted",))

    def test_under_a_pending_report(self):
        desk = pending_desk()
        self.assertEqual((desk.now(), desk.pending()), (3, "a"))
        self.assertEqual(desk.remaining()[2], (("job", "a", 3, 40, 3, ((3, 0), (2, 1))),))

    def test_it_can_be_too_great(self):
        desk = desk_of(NONE, task_of("t", 0, 2, 2), task_of("u", 0, 1000, 1000, 100))
        self.assertIsNone(refusal(check_system, desk.remaining()))
        desk.run(800)
        self.assertEqual(refusal(check_system, desk.remaining()), (0, "too great"))
        self.assertIs(is_sure(desk.remaining()), True)
        # Then nothing is admitted or granted, but bodies come.
        self.assert_nothing_changes(desk, ("refused", "too great"), "admit", job_of("a", 800))
        self.assert_nothing_changes(desk, ("refused", "too great"), "admit", task_of("v", 1000))
        self.assert_nothing_changes(desk, ("refused", "too great"), "grant", 0, 1)
        self.assertEqual(desk.arrive("t"), "t.0")
        self.assertEqual(desk.run(900), ((800, 801, "t.0", 0, 0),))
        desk.report(False)
        self.assertEqual(desk.finished(), (("t.0", 801, 802),))


class AdmitTest(DeskCase):
    """k3."""

    def assert_admit(self, desk, thing):
        """It is told what check_system and is_sure tell of the remaining system with it; gives what is told."""
        word, budgets, jobs, tasks = desk.remaining()
        if thing[0] == "job":
            system = (word, budgets, jobs + (thing[:4] + (0,) + thing[4:],), tasks)
        else:
            system = (word, budgets, jobs, tasks + (thing,))
        reason = refusal(check_system, system)
        if reason is None and is_sure(system):
            log = desk.log()
            self.assertEqual(desk.admit(thing), ("admitted",))
            self.assertEqual(desk.remaining(), system)
            self.assertEqual(desk.log(), log + (("admit", thing),))
            return "admitted"
        told = reason[1] if reason else paper_of(system)
        self.assert_nothing_changes(desk, ("refused", told), "admit", thing)
        if reason is None:
            self.assertIs(judge(system, told), True)
            self.assertEqual(told[0], "unsure")
        return told[0] if reason is None else told

    def test_admitted(self):
        self.assertEqual(self.assert_admit(Desk(BUDGETS), JOB), "admitted")
        self.assertEqual(self.assert_admit(Desk(BUDGETS), TASK), "admitted")
        desk = desk_of(BUDGETS, JOB, TASK)
        self.assertEqual(self.assert_admit(desk, job_of("b", 7, 60, 4, 1)), "admitted")
        self.assertEqual(self.assert_admit(desk, task_of("u", 9, 200, 90, 4, 1)), "admitted")

    def test_just_and_no_more(self):
        # 3 and 2, and 3 twice again: 11.
        for due, told in ((11, "admitted"), (10, "unsure")):
            self.assertEqual(self.assert_admit(Desk(BUDGETS), put(JOB, 3, due)), told)
        # 2, and 2 again.
        for due, told in ((4, "admitted"), (3, "unsure")):
            self.assertEqual(self.assert_admit(Desk(BUDGETS), put(TASK, 4, due)), told)

    def test_what_is_executed_is_not_asked_for_again(self):
        # Behind 3 of 6 units 3 are left, and 7 units of time.
        for length, told in ((4, "admitted"), (5, "unsure")):
            desk = desk_of(NONE, job_of("a", 0, 10, 6))
            desk.run(3)
            self.assertEqual(self.assert_admit(desk, job_of("b", 3, 10, length)), told)

    def test_faults_make_room_if_they_are_found(self):
        thing = job_of("b", 3, 9, 4)
        for faulty, told in ((False, "unsure"), (True, "admitted")):
            desk = desk_of((("all", 1, -1),), job_of("a", 0, 60, 3))
            desk.run(3), desk.report(faulty)
            self.assertEqual(self.assert_admit(desk, thing), told)

    def test_refused_with_a_paper(self):
        desk = desk_of((("all", 1, -1),), job_of("a", 0, 7, 2))
        self.assert_nothing_changes(desk, ("refused", ("unsure", 1, 4, (1,))), "admit", job_of("b", 1, 4, 2))

    def test_refused_with_a_reason(self):
        desk = desk_of(NONE, task_of("t", 0, 2, 2))
        self.assertEqual(self.assert_admit(desk, task_of("u", 0, 2, 2)), "too full")
        # Both are so: too full comes first.
        self.assertEqual(self.assert_admit(desk, task_of("u", 1000, 2, 1000)), "too full")
        self.assertEqual(self.assert_admit(desk, task_of("u", 1000, 3, 1000)), "admitted")
        desk = desk_of(NONE, task_of("t", 0, 2, 2))
        self.assertEqual(self.assert_admit(desk, ("job", "a", 1000, 1000, ((200, 0),))), "too great")
        self.assertEqual(self.assert_admit(desk, ("job", "a", 0, 1000, ((200, 0),))), "admitted")

    def test_refused_as_too_great_though_it_is_sure(self):
        desk = desk_of(NONE, task_of("t", 0, 2, 2), task_of("u", 0, 1000, 1000, 100))
        thing = job_of("a", 800)
        system = desk.remaining()
        with_it = put(system, 2, (thing[:4] + (0,) + thing[4:],))
        self.assertIs(is_sure(with_it), True)
        self.assertEqual(self.assert_admit(desk, thing), "too great")
        self.assertEqual(self.assert_admit(desk, job_of("a", 100)), "admitted")

    def test_behind_the_others(self):
        desk = desk_of(NONE, task_of("t"), job_of("b"), task_of("u"), job_of("a"))
        self.assertEqual([item[1] for item in desk.remaining()[2] + desk.remaining()[3]], ["b", "a", "t", "u"])

    def assert_none(self, desk, *things):
        for thing in things:
            self.assert_nothing_changes(desk, NO_SYSTEM, "admit", thing)

    def test_wrong_shapes(self):
        for desk in (Desk(BUDGETS), desk_of(BUDGETS, JOB, TASK)):
            self.assert_none(
                desk, None, True, 5, "job", "", (), [], ("job",), ("task",), [JOB], (JOB,), list(JOB), list(TASK), JOB[1:],
                JOB[:4], TASK[:5], JOB + (0,), TASK + (0,), ("job", "c", 0, 40, 0, ((3, 0),)), ("task", "c", 0, 40, ((3, 0),)),
                put(JOB, 0, "jobs"), put(JOB, 0, "task"), put(TASK, 0, "job"), put(JOB, 0, None), put(JOB, 0, ["job"]),
                ("job", "c", 0, 40, 0, 0, ((3, 0),)), ("system", BUDGETS, (), ()), ("admit", JOB), (("job",), "c", 0, 40, ((3, 0),)),
            )

    def test_wrong_values(self):
        desk = Desk(BUDGETS)
        for value in NO_INTEGERS + (-1, 1001):
            self.assert_none(desk, put(JOB, 2, value), put(JOB, 3, value), put(TASK, 2, value), put(TASK, 3, value),
                             put(TASK, 4, value))
        for value in NO_INTEGERS + (-1, 0, 1001):
            self.assert_none(desk, put(JOB, 4, ((value, 0),)), put(TASK, 5, ((2, 0), (value, 0))), put(TASK, 3, value))
        for value in NO_INTEGERS + (-1, 2):
            self.assert_none(desk, put(JOB, 4, ((1, value),)), put(TASK, 5, ((2, 0), (1, value))))
        for value in ((), [(3, 0)], ([3, 0],), ((3,),), ((3, 0, 0),), (3, 0), None, True, "", ((1, 0),) * 7):
            self.assert_none(desk, put(JOB, 4, value), put(TASK, 5, value))
        self.assert_none(desk, put(put(JOB, 2, 9), 3, 8))
        for name in (None, True, 3, "", "A", "a1", "abcdefghi", "a b", ("a",), ["a"], "a.b", ".", "a.", ".3", "a.01"):
            self.assert_none(desk, put(JOB, 1, name), put(TASK, 1, name))

    def test_a_name_with_a_point(self):
        for name in ("a.0", "a.3", "abcdefgh.999999"):
            self.assert_none(Desk(BUDGETS), put(JOB, 1, name), put(TASK, 1, name))

    def test_a_release_or_first_below_now(self):
        desk = desk_of(BUDGETS)
        desk.run(50)
        self.assert_none(desk, job_of("a", 49), job_of("a", 0), task_of("t", 49), task_of("t", 0))
        self.assertEqual(desk.admit(job_of("a", 50)), ("admitted",))
        self.assertEqual(desk.admit(task_of("t", 50)), ("admitted",))

    def test_a_name_that_is_active(self):
        desk = desk_of(BUDGETS, JOB, TASK)
        self.assert_none(desk, job_of("a"), task_of("a"), job_of("t"), task_of("t"))
        desk.cancel("a"), desk.cancel("t")
        self.assertEqual(desk.admit(job_of("t")), ("admitted",))
        self.assertEqual(desk.admit(task_of("a")), ("admitted",))

    def test_a_name_of_a_finished_job_is_free(self):
        desk = desk_of(NONE, job_of("a"))
        desk.run(9)
        desk.report(False)
        self.assertEqual(desk.admit(job_of("a", 1)), ("admitted",))

    def test_a_name_with_which_an_active_body_begins(self):
        desk = desk_of(NONE, task_of("t", 0, 100, 500, 9), task_of("tt", 0, 300, 500))
        desk.arrive("t"), desk.arrive("tt")
        desk.cancel("t")
        self.assert_none(desk, job_of("t"), task_of("t"))
        # A name that only begins alike is another one.
        self.assertEqual(desk.admit(job_of("s")), ("admitted",))
        self.assertEqual(desk.admit(job_of("ttt")), ("admitted",))
        desk.cancel("t.0")
        self.assertEqual(desk.admit(task_of("t", 0, 100, 500)), ("admitted",))
        # Its bodies are counted from 0 again.
        self.assertEqual(desk.arrive("t"), "t.0")

    def test_a_forty_first_job_and_a_sixth_task(self):
        desk = desk_of(NONE, *[job_of(name) for name in names(40)])
        self.assert_none(desk, job_of("z"))
        self.assertEqual(desk.admit(task_of("z")), ("admitted",))
        for name in "bcde":
            self.assertEqual(desk.admit(task_of("z" + name)), ("admitted",))
        self.assert_none(desk, task_of("y"), job_of("y"))
        desk.cancel("aa")
        self.assert_none(desk, task_of("y"))
        self.assertEqual(desk.admit(job_of("y")), ("admitted",))
        desk.cancel("z")
        self.assertEqual(desk.admit(task_of("z")), ("admitted",))

    def test_bodies_are_jobs(self):
        desk = desk_of(NONE, *([job_of(name) for name in names(39)] + [task_of("t")]))
        desk.arrive("t")
        self.assert_none(desk, job_of("z"))

    def test_which_error_comes_first(self):
        for desk in (pending_desk(), full_desk()):
            for thing in (job_of("z", 50), job_of("a"), None, (), put(JOB, 1, "a.3")):
                self.assert_nothing_changes(desk, "BadState", "admit", thing)


class ArriveTest(DeskCase):
    """k4."""

    def test_names_dues_and_firsts(self):
        desk = desk_of(BUDGETS, TASK, task_of("u", 0, 50, 90))
        desk.run(7)
        self.assertEqual(desk.arrive("t"), "t.0")
        self.assertEqual(desk.remaining()[2:], ((("job", "t.0", 7, 22, 0, ((2, 1),)),),
                                                (("task", "t", 27, 20, 15, ((2, 1),)), ("task", "u", 7, 50, 90, ((1, 0),)))))
        self.assertEqual(desk.arrive("u"), "u.0")
        desk.run(9), desk.report(False), desk.run(27)
        desk.report(False), desk.run(27)
        self.assertEqual(desk.arrive("t"), "t.1")
        self.assertEqual(desk.remaining()[2], (("job", "t.1", 27, 42, 0, ((2, 1),)),))
        self.assertEqual(desk.log()[-1], ("arrive", "t"))

    def test_more_than_ten_bodies(self):
        desk = desk_of(NONE, task_of("t", 0, 2, 1))
        for k in range(12):
            self.assertEqual(desk.arrive("t"), f"t.{k}")
            desk.run(2 * k + 1), desk.report(False), desk.run(2 * k + 2)
        self.assertEqual(desk.finished()[-1], ("t.11", 23, 23))

    def test_too_early(self):
        desk = desk_of(BUDGETS, TASK)
        for now in (0, 4):
            desk.run(now)
            self.assert_nothing_changes(desk, "BadState", "arrive", "t")
        desk.run(5)
        self.assertEqual(desk.arrive("t"), "t.0")
        self.assert_nothing_changes(desk, "BadState", "arrive", "t")
        desk.run(7), desk.report(False), desk.run(24)
        self.assert_nothing_changes(desk, "BadState", "arrive", "t")
        desk.run(25)
        self.assertEqual(desk.arrive("t"), "t.1")

    def test_of_nobody(self):
        desk = desk_of(BUDGETS, JOB, put(TASK, 2, 0))
        desk.arrive("t")
        for name in ("", "b", "a", "t.0", "t.", "tt", "T", None, 0, True, ("t",), ["t"]):
            self.assert_nothing_changes(desk, "BadState", "arrive", name)
        desk.run(1), desk.cancel("t")
        self.assert_nothing_changes(desk, "BadState", "arrive", "t")

    def test_with_40_jobs(self):
        desk = desk_of(NONE, *([job_of(name) for name in names(39)] + [task_of("t"), task_of("u")]))
        self.assertEqual(desk.arrive("u"), "u.0")
        self.assert_nothing_changes(desk, "BadState", "arrive", "t")
        desk.cancel("u.0")
        self.assertEqual(desk.arrive("t"), "t.0")

    def test_a_due_above_1000(self):
        for now, told in ((899, "t.0"), (900, "t.0"), (901, "BadState"), (1000, "BadState")):
            desk = desk_of(NONE, task_of("t", 0, 200, 100))
            desk.run(now)
            if told == "BadState":
                self.assert_nothing_changes(desk, told, "arrive", "t")
            else:
                self.assertEqual(desk.arrive("t"), told)
                self.assertEqual(desk.remaining()[2][0][3], now + 100)

    def test_pending_or_full(self):
        desk = pending_desk()
        self.assert_nothing_changes(desk, "BadState", "arrive", "t")
        desk = full_desk()
        desk.undo(), desk.run(5)
        self.assert_nothing_changes(desk, "BadState", "arrive", "t")


class CancelTest(DeskCase):
    """k5."""

    def test_jobs(self):
        desk = desk_of(BUDGETS, JOB, job_of("b", 0, 500, 5), TASK)
        desk.run(2)
        desk.cancel("a")
        self.assertEqual(desk.remaining()[2:], ((("job", "b", 2, 500, 0, ((5, 0),)),), (("task",) + TASK[1:],)))
        self.assertEqual(desk.log()[-1], ("cancel", "a"))
        self.assertEqual(desk.finished(), ())
        self.assert_nothing_changes(desk, "BadState", "cancel", "a")

    def test_bodies_of_a_cancelled_task_stay(self):
        desk = desk_of(NONE, task_of("t", 0, 10, 200, 2), task_of("u"))
        desk.arrive("t"), desk.run(1)
        desk.cancel("t")
        self.assertEqual([row[1] for row in desk.remaining()[2] + desk.remaining()[3]], ["t.0", "u"])
        desk.run(9), desk.report(False)
        self.assertEqual(desk.finished(), (("t.0", 2, 200),))

    def test_a_body_alone(self):
        desk = desk_of(NONE, task_of("t", 0, 10, 200, 2))
        desk.arrive("t")
        desk.cancel("t.0")
        self.assertEqual(desk.remaining()[2:], ((), (("task", "t", 10, 10, 200, ((2, 0),)),)))
        desk.run(10)
        # The number of the body is not given again.
        self.assertEqual(desk.arrive("t"), "t.1")

    def test_nothing_active(self):
        desk = desk_of(NONE, job_of("a"), task_of("t"))
        desk.run(5), desk.report(False)
        for name in ("a", "b", "", "t.0", "a.0", None, True, 0, ("t",), ["t"]):
            self.assert_nothing_changes(desk, "BadState", "cancel", name)

    def test_pending_or_full(self):
        for desk in (pending_desk(), full_desk()):
            self.assert_nothing_changes(desk, "BadState", "cancel", "a")
            self.assert_nothing_changes(desk, "BadState", "cancel", "t")


class GrantTest(DeskCase):
    """k5."""

    def test_let(self):
        desk = desk_of(BUDGETS, put(JOB, 3, 500))
        self.assertEqual(desk.grant(1, 4), ("granted",))
        self.assertEqual(desk.remaining()[1], (("all", 2, -1), ("disk", 5, 0)))
        self.assertEqual(desk.grant(0, 18), ("granted",))
        self.assertEqual(desk.remaining()[1], (("all", 20, -1), ("disk", 5, 0)))
        self.assertEqual(desk.log()[1:], (("grant", 1, 4), ("grant", 0, 18)))

    def test_refused_with_a_paper(self):
        desk = desk_of((("all", 1, -1),), job_of("a", 0, 10, 3))
        # With two faults it is 9, with three 12.
        with_it = put(desk.remaining(), 1, (("all", 3, -1),))
        self.assert_nothing_changes(desk, ("refused", paper_of(with_it)), "grant", 0, 2)
        self.assertEqual(paper_of(with_it), ("unsure", 0, 10, (3,)))
        self.assertIs(judge(with_it, paper_of(with_it)), True)
        self.assertEqual(desk.grant(0, 1), ("granted",))
        self.assert_nothing_changes(desk, ("refused", ("unsure", 0, 10, (3,))), "grant", 0, 1)

    def test_a_capacity_above_20(self):
        desk = Desk((("all", 7, -1), ("disk", 20, 0)))
        for budget, more in ((0, 14), (0, 20), (0, 1000000), (1, 1)):
            self.assert_nothing_changes(desk, "BadState", "grant", budget, more)
        self.assertEqual(desk.grant(0, 13), ("granted",))
        self.assert_nothing_changes(desk, "BadState", "grant", 0, 1)

    def test_what_is_used_can_be_granted_again(self):
        desk = desk_of((("all", 20, -1),), job_of("a", 0, 900))
        desk.run(5), desk.report(True)
        self.assert_nothing_changes(desk, "BadState", "grant", 0, 2)
        self.assertEqual(desk.grant(0, 1), ("granted",))

    def test_no_budget_and_no_more(self):
        desk = Desk(BUDGETS)
        for budget in NO_INTEGERS + (-1, -2, 2, 20):
            self.assert_nothing_changes(desk, "BadState", "grant", budget, 1)
        for more in NO_INTEGERS + (0, -1):
            self.assert_nothing_changes(desk, "BadState", "grant", 0, more)

    def test_pending_or_full(self):
        for desk in (pending_desk(), full_desk()):
            self.assert_nothing_changes(desk, "BadState", "grant", 0, 1)


class LogTest(DeskCase):
    """k8."""

    def test_behind_each_deed(self):
        desk = Desk(BUDGETS)
        deeds = (("admit", JOB), ("admit", TASK), ("grant", 1, 2), ("run", 0), ("run", 900), ("report", True), ("run", 7),
                 ("report", False), ("arrive", "t"), ("run", 9), ("report", False), ("cancel", "t"), ("cancel", "a"))
        for k, (word, *values) in enumerate(deeds):
            getattr(desk, word)(*values)
            self.assertEqual(desk.log(), deeds[:k + 1])
        # until stands there as it was asked for, though the runs ended at 3, 6 and 8.
        self.assertEqual((desk.now(), desk.finished()), (8, (("t.0", 8, 21),)))

    def test_what_was_refused_is_not_in_it(self):
        desk = desk_of((("all", 1, -1),), job_of("a", 0, 7, 2))
        desk.admit(job_of("b", 1, 4, 2)), desk.grant(0, 19)
        outcome(desk.cancel, "b"), outcome(desk.run, 1001), outcome(desk.report, True), outcome(desk.admit, None)
        self.assertEqual(desk.log(), (("admit", job_of("a", 0, 7, 2)),))

    def test_undo_back_to_the_beginning(self):
        desk = Desk(BUDGETS)
        deeds = (("admit", JOB), ("admit", TASK), ("grant", 1, 2), ("run", 0), ("run", 900), ("report", True), ("run", 7),
                 ("report", False), ("arrive", "t"), ("run", 9), ("report", False), ("cancel", "t"), ("run", 400),
                 ("report", False), ("run", 500))
        states = []
        for word, *values in deeds:
            states.append(seen(desk))
            getattr(desk, word)(*values)
        while states:
            self.assertIsNone(desk.undo())
            self.assertEqual(seen(desk), states.pop())
        self.assert_nothing_changes(desk, "BadState", "undo")
        # It goes on as if nothing had been.
        self.assertEqual(desk.admit(JOB), ("admitted",))
        self.assertEqual(desk.run(1), ((0, 1, "a", 0, 0),))

    def test_undo_under_a_pending_report(self):
        desk = pending_desk()
        desk.undo()
        self.assertEqual(seen(desk), seen(desk_of(BUDGETS, JOB, TASK)))
        self.assertEqual(desk.run(100), ((0, 3, "a", 0, 0),))

    def test_a_refusal_is_not_undone(self):
        desk = desk_of((("all", 1, -1),), job_of("a", 0, 7, 2))
        desk.admit(job_of("b", 1, 4, 2))
        desk.undo()
        self.assertEqual(seen(desk), seen(Desk((("all", 1, -1),))))

    def test_undone_numbers_of_bodies(self):
        desk = desk_of(NONE, task_of("t", 0, 10, 200))
        self.assertEqual(desk.arrive("t"), "t.0")
        desk.undo()
        self.assertEqual(desk.arrive("t"), "t.0")

    def test_500_entries(self):
        desk = full_desk()
        self.assertEqual(len(desk.log()), 500)
        for word, *values in (("admit", job_of("z", 50)), ("arrive", "t"), ("cancel", "a"), ("grant", 0, 1), ("run", 0),
                              ("run", 50), ("report", True), ("report", False)):
            self.assert_nothing_changes(desk, "BadState", word, *values)
        desk.undo()
        self.assertEqual(len(desk.log()), 499)
        self.assertEqual(desk.run(50), ((0, 3, "a", 0, 0),))
        # A report is pending, and the log is full.
        for word, *values in (("report", True), ("report", False), ("admit", None), ("run", 50), ("cancel", "a")):
            self.assert_nothing_changes(desk, "BadState", word, *values)
        desk.undo(), desk.undo()
        desk.run(50), desk.report(False)
        self.assertEqual((len(desk.log()), desk.pending()), (500, ""))
        self.assert_nothing_changes(desk, "BadState", "run", 50)

    def test_undo_all_500(self):
        desk = full_desk()
        for _ in range(500):
            desk.undo()
        self.assertEqual(seen(desk), seen(Desk(BUDGETS)))
        with self.assertRaises(BadState):
            desk.undo()


if __name__ == "__main__":
    unittest.main()
