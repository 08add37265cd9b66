"""Promises k6 and k7: running and reporting, and that nobody is late; over many drawn deeds all of k1 to k8."""
import random
import unittest

from faultdue.admission import is_sure
from faultdue.desk import Desk
from faultdue.plans import check_arrivals, check_plan, faults_of
from faultdue.schedules import run_of, worst_of
from tests.helpers import NO_INTEGERS, drawn_budgets, fits
from tests.plain_desk import PlainDesk, drawn_deed, outcome, seen
from tests.test_desk import BUDGETS, JOB, NONE, TASK, DeskCase, desk_of, full_desk, job_of, pending_desk, task_of


class RunTest(DeskCase):
    """k6."""

    def test_equal_dues(self):
        # b came in first, though a is ahead by name and c by release.
        desk = Desk(NONE)
        for thing in (job_of("b", 2, 50, 3), job_of("a", 2, 50, 3), job_of("c", 0, 50, 4)):
            desk.admit(thing)
        told = []
        while not desk.finished()[2:]:
            told.append(desk.run(1000))
            desk.report(False)
        self.assertEqual(told, [((0, 2, "c", 0, 0), (2, 5, "b", 0, 0)), ((5, 8, "a", 0, 0),), ((8, 10, "c", 0, 0),)])
        self.assertEqual(desk.finished(), (("b", 5, 50), ("a", 8, 50), ("c", 10, 50)))

    def test_the_least_due_comes_first(self):
        desk = desk_of(NONE, job_of("a", 0, 50, 5), job_of("b", 2, 30, 2), job_of("c", 3, 20, 1))
        self.assertEqual(desk.run(50), ((0, 2, "a", 0, 0), (2, 3, "b", 0, 0), (3, 4, "c", 0, 0)))
        self.assertEqual((desk.now(), desk.pending()), (4, "c"))
        desk.report(False)
        self.assertEqual(desk.run(50), ((4, 5, "b", 0, 0),))
        desk.report(False)
        self.assertEqual(desk.run(50), ((5, 8, "a", 0, 0),))

    def test_bodies_came_in_when_they_came(self):
        desk = desk_of(NONE, task_of("t", 0, 100, 50, 2), task_of("u", 0, 100, 50, 2), job_of("z", 0, 50, 2))
        desk.arrive("u"), desk.arrive("t")
        self.assertEqual(desk.run(9), ((0, 2, "z", 0, 0),))
        desk.report(False)
        self.assertEqual(desk.run(9), ((2, 4, "u.0", 0, 0),))
        desk.report(False)
        self.assertEqual(desk.run(9), ((4, 6, "t.0", 0, 0),))

    def test_idle_times(self):
        desk = desk_of(NONE, job_of("a", 3, 50, 2), job_of("b", 9, 50, 2))
        self.assertEqual(desk.run(2), ())
        self.assertEqual(desk.now(), 2)
        self.assertEqual(desk.run(4), ((3, 4, "a", 0, 0),))
        self.assertEqual(desk.run(20), ((4, 5, "a", 0, 0),))
        desk.report(False)
        self.assertEqual(desk.run(20), ((9, 11, "b", 0, 0),))
        desk.report(False)
        self.assertEqual((desk.run(1000), desk.now(), desk.pending()), ((), 1000, ""))
        self.assertEqual((desk.run(1000), desk.now()), ((), 1000))

    def test_without_anything(self):
        desk = Desk(BUDGETS)
        self.assertEqual((desk.run(1000), desk.now(), desk.log()), ((), 1000, (("run", 1000),)))

    def test_it_ends_at_its_time_or_at_the_end_of_an_attempt(self):
        for until, end, pending in ((2, 2, ""), (3, 3, "a"), (4, 3, "a"), (1000, 3, "a")):
            desk = desk_of(BUDGETS, JOB)
            self.assertEqual(desk.run(until), ((0, end, "a", 0, 0),))
            self.assertEqual((desk.now(), desk.pending()), (end, pending))
            self.assertEqual(desk.log()[-1], ("run", until))

    def test_up_to_now(self):
        desk = desk_of(BUDGETS, JOB)
        for now in (0, 2):
            desk.run(now)
            before = seen(desk)
            self.assertEqual(desk.run(now), ())
            self.assertEqual(seen(desk)[:4], before[:4])
            self.assertEqual(desk.log(), before[4] + (("run", now),))

    def test_until_is_none(self):
        desk = desk_of(BUDGETS, job_of("a"), TASK)
        for until in NO_INTEGERS + (-1, 1001, 1000000):
            self.assert_nothing_changes(desk, "BadState", "run", until)
        desk.run(1), desk.report(False), desk.run(30)
        for until in (0, 29, -30):
            self.assert_nothing_changes(desk, "BadState", "run", until)
        self.assertEqual(desk.run(30), ())

    def test_slices_are_longest_stretches(self):
        # b is released while a is executed, but due later.
        desk = desk_of(NONE, job_of("a", 0, 50, 6), job_of("b", 2, 60, 2), job_of("c", 4, 50, 1))
        self.assertEqual(desk.run(9), ((0, 6, "a", 0, 0),))
        desk.report(False)
        # A further run begins a slice of its own.
        self.assertEqual(desk.run(6), ())
        desk.run(7), desk.report(False)
        self.assertEqual((desk.run(8), desk.run(9)), (((7, 8, "b", 0, 0),), ((8, 9, "b", 0, 0),)))

    def test_segments_and_attempts(self):
        desk = desk_of((("all", 9, -1),), ("job", "a", 0, 900, ((2, 0), (3, 0), (1, 0))))
        told = []
        for faulty in (True, True, False, True, False, False):
            told.extend(desk.run(1000))
            desk.report(faulty)
        self.assertEqual(told, [(0, 2, "a", 0, 0), (2, 4, "a", 0, 1), (4, 6, "a", 0, 2), (6, 9, "a", 1, 0),
                                (9, 12, "a", 1, 1), (12, 13, "a", 2, 0)])
        self.assertEqual(desk.finished(), (("a", 13, 900),))
        self.assertEqual(desk.remaining(), ("system", (("all", 6, -1),), (), ()))

    def test_an_attempt_that_is_broken_off_goes_on(self):
        desk = desk_of((("all", 1, -1),), job_of("a", 0, 90, 4), job_of("b", 2, 20, 1))
        self.assertEqual(desk.run(50), ((0, 2, "a", 0, 0), (2, 3, "b", 0, 0)))
        desk.report(True)
        self.assertEqual(desk.run(50), ((3, 4, "b", 0, 1),))
        desk.report(False)
        self.assertEqual(desk.run(50), ((4, 6, "a", 0, 0),))
        self.assertEqual(desk.pending(), "a")

    def test_deeds_under_a_pending_report(self):
        desk = pending_desk()
        for word, *values in (("admit", job_of("z", 50)), ("arrive", "t"), ("cancel", "a"), ("cancel", "t"), ("grant", 0, 1),
                              ("run", 3), ("run", 50), ("run", 1)):
            self.assert_nothing_changes(desk, "BadState", word, *values)
        desk.report(False)
        self.assertEqual(desk.admit(job_of("z", 50)), ("admitted",))


class ReportTest(DeskCase):
    """k6."""

    def test_good(self):
        desk = pending_desk()
        self.assertIsNone(desk.report(False))
        self.assertEqual((desk.now(), desk.pending(), desk.finished()), (3, "", ()))
        self.assertEqual(desk.remaining()[1:3], (BUDGETS, (("job", "a", 3, 40, 0, ((2, 1),)),)))
        self.assertEqual(desk.log()[-1], ("report", False))

    def test_good_of_the_last_segment(self):
        desk = pending_desk()
        desk.report(False), desk.run(5)
        self.assertEqual(desk.pending(), "a")
        desk.report(False)
        self.assertEqual((desk.pending(), desk.finished(), desk.remaining()[2]), ("", (("a", 5, 40),), ()))

    def test_faulty(self):
        desk = pending_desk()
        self.assertIsNone(desk.report(True))
        self.assertEqual((desk.now(), desk.pending(), desk.finished()), (3, "", ()))
        self.assertEqual(desk.remaining()[1:3], ((("all", 1, -1), ("disk", 1, 0)),
                                                 (("job", "a", 3, 40, 0, ((3, 0), (2, 1))),)))
        self.assertEqual(desk.log()[-1], ("report", True))

    def test_faulty_uses_the_budgets_above(self):
        budgets = (("all", 3, -1), ("net", 2, -1), ("disk", 2, 0), ("far", 2, 2), ("by", 2, 0))
        for source, told in ((0, (2, 2, 2, 2, 2)), (1, (3, 1, 2, 2, 2)), (2, (2, 2, 1, 2, 2)), (3, (2, 2, 1, 1, 2)),
                             (4, (2, 2, 2, 2, 1))):
            desk = desk_of(budgets, job_of("a", 0, 900, 1, source))
            desk.run(1), desk.report(True)
            left = desk.remaining()[1]
            self.assertEqual(tuple(capacity for _, capacity, _ in left), told)
            self.assertEqual([row[::2] for row in left], [row[::2] for row in budgets])

    def test_impossible(self):
        for budgets in ((("all", 0, -1), ("disk", 1, 0)), (("all", 1, -1), ("disk", 0, 0))):
            desk = desk_of(budgets, job_of("a", 0, 900, 1, 1))
            desk.run(1)
            self.assert_nothing_changes(desk, "BadState", "report", True)
            self.assertEqual(desk.pending(), "a")
            self.assertIsNone(desk.report(False))
        desk = desk_of((("all", 1, -1), ("disk", 0, 0)), job_of("a", 0, 900, 1, 0))
        desk.run(1)
        # The budgets below the source do not matter.
        self.assertIsNone(desk.report(True))
        desk.run(2)
        self.assert_nothing_changes(desk, "BadState", "report", True)

    def test_nothing_pending(self):
        desk = desk_of(BUDGETS, JOB)
        for _ in range(2):
            self.assert_nothing_changes(desk, "BadState", "report", True)
            self.assert_nothing_changes(desk, "BadState", "report", False)
            desk.run(1)
        desk.run(9), desk.report(True)
        self.assert_nothing_changes(desk, "BadState", "report", False)

    def test_undone(self):
        desk = pending_desk()
        before = seen(desk)
        for faulty in (True, False):
            desk.report(faulty), desk.undo()
            self.assertEqual(seen(desk), before)
        desk.report(False), desk.run(5), desk.report(False), desk.undo()
        self.assertEqual((desk.pending(), desk.finished()), ("a", ()))

    def test_full_log(self):
        desk = full_desk()
        self.assert_nothing_changes(desk, "BadState", "report", False)


class DrawnTest(unittest.TestCase):
    """k1 to k8 over many drawn deeds."""

    def drawn_walk(self, seed, steps):
        """Yields the desk, a deed and what it told, step by step, and holds the desk against the plain one."""
        draw = random.Random(seed)
        budgets = drawn_budgets(draw)
        desk, plain = Desk(budgets), PlainDesk(budgets)
        for _ in range(steps):
            word, *values = drawn_deed(draw, desk)
            before = seen(desk)
            told = outcome(getattr(desk, word), *values)
            self.assertEqual(told, outcome(getattr(plain, word), *values), (seed, word, values))
            self.assertEqual(seen(desk), seen(plain), (seed, word, values))
            if told == "BadState" or (isinstance(told, tuple) and told[:1] in (("BadSystem",), ("refused",))):
                self.assertEqual(seen(desk), before)
            yield desk, word, values, told

    def test_against_a_plain_desk(self):
        kinds = {}
        for seed in range(90):
            for _, word, _, told in self.drawn_walk(seed, 110):
                kind = told if isinstance(told, str) and told == "BadState" else told[0] if word in ("admit", "grant") else ""
                kinds[word, kind] = kinds.get((word, kind), 0) + 1
        for kind in (("admit", "admitted"), ("admit", "refused"), ("admit", "BadSystem"), ("admit", "BadState"),
                     ("arrive", ""), ("arrive", "BadState"), ("cancel", ""), ("cancel", "BadState"), ("grant", "granted"),
                     ("grant", "refused"), ("grant", "BadState"), ("run", ""), ("run", "BadState"), ("report", ""),
                     ("report", "BadState"), ("undo", ""), ("undo", "BadState")):
            self.assertGreater(kinds.get(kind, 0), 8, kind)

    def test_nobody_is_late(self):
        finished = faulty = 0
        for seed in range(200, 280):
            for desk, word, values, told in self.drawn_walk(seed, 110):
                self.assertIs(is_sure(desk.remaining()), True, (seed, word, values))
                faulty += (word, values, told) == ("report", [True], None)
            self.assertEqual([row for row in desk.finished() if row[1] > row[2]], [])
            finished += len(desk.finished())
        self.assertGreater(finished, 300)
        self.assertGreater(faulty, 60)

    def test_what_is_refused_by_a_paper_could_be_late(self):
        seen_papers = 0
        for seed in range(300, 360):
            for desk, word, values, told in self.drawn_walk(seed, 60):
                if word == "admit" and isinstance(told, tuple) and told[0] == "refused" and told[1][0] == "unsure":
                    thing = values[0]
                    _, budgets, jobs, tasks = desk.remaining()
                    jobs, tasks = ((jobs + (thing[:4] + (0,) + thing[4:],), tasks) if thing[0] == "job" else
                                   (jobs, tasks + (thing,)))
                    system = ("system", budgets, jobs, tasks)
                    arrivals, plan = worst_of(system, *told[1][1:3])
                    check_arrivals(system, arrivals), check_plan(system, arrivals, plan)
                    self.assertTrue(fits(budgets, faults_of(system, arrivals, plan)))
                    self.assertNotEqual(run_of(system, arrivals, plan)[2], ())
                    seen_papers += 1
        self.assertGreater(seen_papers, 50)

    def test_with_all_faults_that_can_be(self):
        """Each attempt is faulty as long as it can be, and each body comes as early as it can."""
        for seed in range(400, 440):
            draw = random.Random(seed)
            desk = Desk(drawn_budgets(draw))
            for step in range(120):
                if desk.pending():
                    if outcome(desk.report, True) == "BadState":
                        desk.report(False)
                    continue
                for task in desk.remaining()[3]:
                    outcome(desk.arrive, task[1])
                if step < 40:
                    word, *values = drawn_deed(draw, desk)
                    if word in ("admit", "cancel"):
                        outcome(getattr(desk, word), *values)
                desk.run(min(1000, desk.now() + 1))
            self.assertEqual([row for row in desk.finished() if row[1] > row[2]], [])
            self.assertIs(is_sure(desk.remaining()), True)

    def test_a_job_just_in_time(self):
        # With both faults it ends just at its due, also if a body comes whenever it can.
        desk = desk_of((("all", 2, -1),), task_of("t", 0, 10, 4, 1), job_of("a", 0, 17, 5))
        self.assertEqual(desk.admit(job_of("b", 0, 17, 1))[0], "refused")
        while not any(row[0] == "a" for row in desk.finished()):
            outcome(desk.arrive, "t")
            desk.run(desk.now() + 1)
            if desk.pending() == "a" and desk.remaining()[1][0][1] > 0:
                desk.report(True)
            elif desk.pending():
                desk.report(False)
        self.assertEqual(desk.finished()[-1], ("a", 17, 17))
        self.assertEqual(desk.remaining()[1], (("all", 0, -1),))


if __name__ == "__main__":
    unittest.main()
