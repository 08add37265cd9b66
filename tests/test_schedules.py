"""Promises e3 to e7, and c1 for them."""
import copy
import random
import unittest
from itertools import product

from faultdue import schedules as module
from faultdue.admission import crowded, is_sure
from faultdue.demand import analysis
from faultdue.plans import check_arrivals, check_plan, faults_of, needs
from faultdue.schedules import run_of, verdict, worst_of
from faultdue.text import parse
from tests.helpers import drawn_arrivals, drawn_plan, drawn_systems, fits, plain_inside, plain_items, plain_run

SYSTEMS = drawn_systems(150, seed=13)


def schedule_of(slices):
    return tuple((start, end, item) for start, end, item, _, _ in slices)


def plain_verdict(system, arrivals, plan, schedule):
    """The verdict, straight from e5, unit by unit."""
    items = plain_items(system, arrivals)
    needed = needs(system, arrivals, plan)
    for k, (start, _, _) in enumerate(schedule):
        if any(start < end for _, end, _ in schedule[:k]):
            return ("overlap", k)
    units = [[time for start, end, item in schedule if item == i for time in range(start, end)]
             for i in range(len(items))]
    for word, wrong in (
        ("early", lambda i: any(time < items[i][0] for time in units[i])),
        ("short", lambda i: len(units[i]) < needed[i]),
        ("late", lambda i: len([time for time in units[i] if time + 1 <= items[i][1]]) < needed[i]),
    ):
        for i in range(len(items)):
            if wrong(i):
                return (word, i)
    return ("good", -1)


class InterfaceTest(unittest.TestCase):
    def test_example_of_a_run(self):
        system = parse("budget all 1\njob a 0 to 7 do 2 all\njob b 1 to 4 do 1 all\n")
        self.assertEqual(
            run_of(system, (), ((0, 0, 1),)),
            (((0, 1, 0, 0, 0), (1, 2, 1, 0, 0), (2, 3, 0, 0, 0), (3, 5, 0, 0, 1)), (5, 2), ()),
        )

    def test_example_of_a_verdict(self):
        system = parse("budget all 1\njob a 0 to 7 do 2 all\njob b 1 to 4 do 1 all\n")
        self.assertEqual(
            (worst_of(system, 0, 7), verdict(system, (), (), ((1, 2, 1), (2, 4, 0))),
             verdict(system, (), (), ((0, 2, 0),))),
            (((), ((0, 0, 1),)), ('good', -1), ('short', 1)),
        )

    def test_defined_in_their_file(self):
        for name in ("run_of", "verdict", "worst_of"):
            self.assertEqual(getattr(module, name).__module__, "faultdue.schedules")

    def test_nothing_handed_in_is_changed(self):
        draw = random.Random(14)
        for system in SYSTEMS[:20]:
            arrivals = drawn_arrivals(draw, system)
            plan = drawn_plan(draw, system, arrivals, False)
            schedule = schedule_of(run_of(system, arrivals, plan)[0])
            handed = copy.deepcopy((system, arrivals, plan, schedule))
            for _ in range(2):
                run_of(*handed[:3]), verdict(*handed), worst_of(handed[0], 0, 30)
                self.assertEqual(handed, (system, arrivals, plan, schedule))


class RunTest(unittest.TestCase):
    """e3 and e4."""

    def assert_run(self, text, plan, told, arrivals=()):
        system = parse(text)
        check_arrivals(system, arrivals)
        check_plan(system, arrivals, plan)
        self.assertEqual(run_of(system, arrivals, plan), told)
        self.assertEqual(plain_run(system, arrivals, plan), told)

    def test_against_a_plain_walk(self):
        draw = random.Random(15)
        late = 0
        for system in SYSTEMS:
            for within in (True, False):
                arrivals = drawn_arrivals(draw, system)
                plan = drawn_plan(draw, system, arrivals, within)
                told = run_of(system, arrivals, plan)
                self.assertEqual(told, plain_run(system, arrivals, plan), (system, arrivals, plan))
                late += len(told[2]) > 0
        self.assertGreater(late, 60)

    def test_kinds(self):
        slices, ends, late = run_of(SYSTEMS[0], drawn_arrivals(random.Random(1), SYSTEMS[0]), ())
        for told in (slices, ends, late) + slices:
            self.assertIsInstance(told, tuple)

    def test_nothing_to_run(self):
        self.assertEqual(run_of(parse("budget all 1"), (), ()), ((), (), ()))
        self.assertEqual(run_of(parse("budget all 1\ntask a from 0 gap 9 due 3 do 1 all"), ((),), ()), ((), (), ()))

    def test_equal_dues(self):
        self.assert_run("budget all 1\njob a 1 to 7 do 2 all\njob b 0 to 7 do 3 all\njob c 0 to 7 do 1 all\n", (),
                        (((0, 1, 1, 0, 0), (1, 3, 0, 0, 0), (3, 5, 1, 0, 0), (5, 6, 2, 0, 0)), (3, 5, 6), ()))

    def test_a_body_comes_while_another_item_runs(self):
        self.assert_run("budget all 1\njob a 0 to 20 do 6 all\ntask b from 2 gap 5 due 3 do 1 all\n", (),
                        (((0, 2, 0, 0, 0), (2, 3, 1, 0, 0), (3, 7, 0, 0, 0), (7, 8, 2, 0, 0)), (7, 3, 8), ()),
                        ((2, 7),))
        self.assert_run("budget all 1\njob a 0 to 20 do 6 all\ntask b from 2 gap 5 due 3 do 1 all\n", (),
                        (((0, 2, 0, 0, 0), (2, 3, 1, 0, 0), (3, 7, 0, 0, 0), (30, 31, 2, 0, 0)), (7, 3, 31), ()),
                        ((2, 30),))

    def test_others_releases_do_not_break_a_slice(self):
        self.assert_run("budget all 1\njob a 0 to 8 do 6 all\njob b 2 to 9 do 1 all\njob c 3 to 8 do 1 all\n"
                        "job d 4 to 4 done 1 do 1 all\n", (),
                        (((0, 6, 0, 0, 0), (6, 7, 2, 0, 0), (7, 8, 1, 0, 0)), (6, 8, 7, 4), ()))

    def test_an_attempt_that_goes_on_later_is_another_slice(self):
        self.assert_run("budget all 1\njob a 0 to 9 do 4 all\njob b 1 to 3 do 1 all\njob c 3 to 5 do 1 all\n", (),
                        (((0, 1, 0, 0, 0), (1, 2, 1, 0, 0), (2, 3, 0, 0, 0), (3, 4, 2, 0, 0), (4, 6, 0, 0, 0)),
                         (6, 2, 4), ()))

    def test_faulty_attempts(self):
        self.assert_run("budget all 9\njob a 0 to 20 do 2 all 3 all\n", ((0, 0, 2), (0, 1, 1)),
                        (((0, 2, 0, 0, 0), (2, 4, 0, 0, 1), (4, 6, 0, 0, 2), (6, 9, 0, 1, 0), (9, 12, 0, 1, 1)),
                         (12,), ()))

    def test_a_first_segment_partly_done(self):
        self.assert_run("budget all 9\njob a 3 to 20 done 3 do 4 all 1 all\n", ((0, 0, 2),),
                        (((3, 4, 0, 0, 0), (4, 8, 0, 0, 1), (8, 12, 0, 0, 2), (12, 13, 0, 1, 0)), (13,), ()))

    def test_a_first_segment_wholly_done(self):
        self.assert_run("budget all 9\njob a 3 to 20 done 4 do 4 all 1 all\n", ((0, 0, 2),),
                        (((3, 7, 0, 0, 1), (7, 11, 0, 0, 2), (11, 12, 0, 1, 0)), (12,), ()))
        self.assert_run("budget all 9\njob a 3 to 20 done 4 do 4 all 1 all\n", (), (((3, 4, 0, 1, 0),), (4,), ()))
        self.assert_run("budget all 9\njob a 3 to 20 done 4 do 4 all\n", ((0, 0, 1),), (((3, 7, 0, 0, 1),), (7,), ()))

    def test_a_job_that_needs_nothing(self):
        self.assert_run("budget all 9\njob a 3 to 3 done 4 do 4 all\njob b 0 to 9 do 5 all\n", (),
                        (((0, 5, 1, 0, 0),), (3, 5), ()))
        # It ends at its release also where nothing is executed for a time.
        self.assert_run("budget all 9\njob a 50 to 60 done 4 do 4 all\njob b 0 to 9 do 5 all\n", (),
                        (((0, 5, 1, 0, 0),), (50, 5), ()))

    def test_nothing_is_executed_for_a_time(self):
        self.assert_run("budget all 1\njob a 5 to 9 do 1 all\njob b 900 to 1000 do 2 all\n", (),
                        (((5, 6, 0, 0, 0), (900, 902, 1, 0, 0)), (6, 902), ()))

    def test_a_second_attempt_in_the_next_unit_is_another_slice(self):
        self.assert_run("budget all 9\njob a 0 to 9 do 1 all 1 all\n", ((0, 0, 2),),
                        (((0, 1, 0, 0, 0), (1, 2, 0, 0, 1), (2, 3, 0, 0, 2), (3, 4, 0, 1, 0)), (4,), ()))

    def test_late_items(self):
        self.assert_run("budget all 0\njob a 0 to 3 do 3 all\njob b 0 to 4 do 2 all\njob c 0 to 6 do 1 all\n", (),
                        (((0, 3, 0, 0, 0), (3, 5, 1, 0, 0), (5, 6, 2, 0, 0)), (3, 5, 6), (1,)))
        self.assert_run("budget all 0\njob c 0 to 5 do 1 all\njob b 0 to 4 do 2 all\njob a 0 to 3 do 3 all\n", (),
                        (((0, 3, 2, 0, 0), (3, 5, 1, 0, 0), (5, 6, 0, 0, 0)), (6, 5, 3), (0, 1)))

    def test_a_late_item_comes_ahead_of_others(self):
        self.assert_run("budget all 0\njob a 0 to 1 do 5 all\njob b 2 to 9 do 2 all\n", (),
                        (((0, 5, 0, 0, 0), (5, 7, 1, 0, 0)), (5, 7), (0,)))

    def test_plans_beyond_the_budgets(self):
        self.assert_run("budget all 0\njob a 0 to 9 do 4 all\n", ((0, 0, 20),),
                        (tuple((4 * k, 4 * k + 4, 0, 0, k) for k in range(21)), (84,), (0,)))

    def test_great_times(self):
        system = parse("budget all 0\ntask a from 0 gap 1000 due 3 do 2 all\njob b 7 to 1000 do 2 all\n")
        arrivals = (tuple(range(0, 1000001, 1000)),)
        slices, ends, late = run_of(system, arrivals, ())
        self.assertEqual(slices[:3], ((0, 2, 1, 0, 0), (7, 9, 0, 0, 0), (1000, 1002, 2, 0, 0)))
        self.assertEqual((len(slices), ends[-1], late), (1002, 1000002, ()))


class VerdictTest(unittest.TestCase):
    """e5."""

    TEXT = "budget all 2\njob a 2 to 9 do 2 all\njob b 0 to 4 do 1 all\njob c 1 to 5 done 1 do 1 all\n"

    def assert_verdict(self, told, schedule, plan=()):
        system = parse(self.TEXT)
        self.assertEqual(verdict(system, (), plan, schedule), told, schedule)
        self.assertEqual(plain_verdict(system, (), plan, schedule), told)

    def test_good(self):
        self.assert_verdict(("good", -1), ((0, 1, 1), (2, 4, 0)))
        self.assert_verdict(("good", -1), ((0, 1, 1), (2, 3, 0), (8, 9, 0)))
        # c needs nothing, and may have something.
        self.assert_verdict(("good", -1), ((0, 1, 1), (1, 2, 2), (2, 4, 0)))
        self.assert_verdict(("good", -1), ((3, 4, 1), (4, 5, 2), (7, 9, 0)))

    def test_a_period_may_begin_where_the_one_ahead_ends(self):
        self.assert_verdict(("good", -1), ((3, 4, 1), (4, 6, 0)))
        self.assert_verdict(("overlap", 1), ((2, 4, 0), (3, 4, 1)))
        self.assert_verdict(("overlap", 1), ((3, 5, 0), (3, 4, 1)))

    def test_overlap_with_any_ahead(self):
        self.assert_verdict(("overlap", 1), ((2, 8, 0), (3, 4, 1), (5, 6, 0)))
        self.assert_verdict(("overlap", 2), ((3, 4, 1), (4, 6, 0), (2, 3, 0)))
        self.assert_verdict(("overlap", 1), ((4, 6, 0), (3, 4, 1)))

    def test_early(self):
        self.assert_verdict(("early", 0), ((0, 1, 1), (1, 3, 0)))
        self.assert_verdict(("early", 2), ((0, 1, 2), (1, 2, 1), (2, 4, 0)))
        self.assert_verdict(("early", 0), ((0, 1, 2), (1, 3, 0), (3, 4, 1)))

    def test_short(self):
        self.assert_verdict(("short", 0), ((0, 1, 1), (2, 3, 0)))
        self.assert_verdict(("short", 1), ((2, 4, 0),))
        self.assert_verdict(("short", 0), ())
        self.assert_verdict(("short", 1), ((1, 2, 2), (2, 4, 0)))

    def test_late(self):
        self.assert_verdict(("late", 1), ((2, 4, 0), (4, 5, 1)))
        self.assert_verdict(("late", 0), ((0, 1, 1), (8, 10, 0)))
        self.assert_verdict(("late", 0), ((4, 5, 1), (8, 10, 0)))
        self.assert_verdict(("late", 0), ((0, 1, 1), (9, 11, 0)))

    def test_more_units_than_needed(self):
        self.assert_verdict(("good", -1), ((0, 2, 1), (2, 9, 0)))
        # Units behind the due do no harm if there are enough before it.
        self.assert_verdict(("good", -1), ((0, 1, 1), (2, 4, 0), (20, 30, 0), (30, 31, 1), (50, 60, 2)))
        self.assert_verdict(("late", 0), ((0, 1, 1), (2, 3, 0), (20, 30, 0)))
        self.assert_verdict(("good", -1), ((0, 1, 1), (3, 4, 0), (8, 30, 0)))

    def test_a_plan(self):
        self.assert_verdict(("short", 0), ((0, 1, 1), (2, 5, 0)), ((0, 0, 1),))
        self.assert_verdict(("good", -1), ((0, 1, 1), (2, 6, 0)), ((0, 0, 1),))
        self.assert_verdict(("short", 2), ((0, 1, 1), (2, 6, 0)), ((2, 0, 1),))
        self.assert_verdict(("late", 2), ((0, 1, 1), (2, 5, 0), (5, 6, 2)), ((2, 0, 1),))

    def test_their_order(self):
        self.assert_verdict(("overlap", 2), ((0, 1, 0), (3, 5, 0), (4, 5, 1)))
        self.assert_verdict(("early", 2), ((0, 1, 2), (5, 6, 1)))
        self.assert_verdict(("short", 0), ((5, 6, 1),))
        self.assert_verdict(("short", 1), ((8, 10, 0),))
        self.assert_verdict(("late", 0), ((5, 6, 1), (8, 10, 0)))

    def test_bodies(self):
        system = parse("budget all 1\ntask a from 3 gap 5 due 4 do 2 all\n")
        for schedule, told in ((((3, 5, 0), (8, 10, 1)), ("good", -1)), (((3, 5, 0), (7, 9, 1)), ("early", 1)),
                               (((3, 5, 0), (10, 12, 1)), ("good", -1)), (((3, 5, 0), (11, 13, 1)), ("late", 1))):
            self.assertEqual(verdict(system, ((3, 8),), (), schedule), told)

    def test_against_a_plain_walk(self):
        draw = random.Random(16)
        seen = {}
        for system in SYSTEMS:
            arrivals = drawn_arrivals(draw, system, 2)
            plan = drawn_plan(draw, system, arrivals, True)
            schedule = list(schedule_of(run_of(system, arrivals, plan)[0]))
            for _ in range(6):
                told = verdict(system, arrivals, plan, tuple(schedule))
                self.assertEqual(told, plain_verdict(system, arrivals, plan, tuple(schedule)), (system, schedule))
                seen[told[0]] = seen.get(told[0], 0) + 1
                if schedule:
                    at = draw.randrange(len(schedule))
                    start, end, item = schedule.pop(at)
                    more = draw.choice((-3, -1, 0, 1, 4))
                    if draw.random() < 0.8:
                        schedule.insert(at, (max(0, start + more), max(0, start + more) + end - start, item))
        for word in ("overlap", "early", "short", "late", "good"):
            self.assertGreater(seen.get(word, 0), 20, seen)


class WorstTest(unittest.TestCase):
    """e6."""

    def test_item_by_item(self):
        system = parse("budget all 3\nbudget disk 2 in all\njob a 0 to 40 do 2 disk 5 all 5 all\n"
                       "job b 1 to 9 do 4 disk 5 all\ntask c from 4 gap 10 due 6 do 3 disk 4 disk 1 all\n")
        # Penalties 5 and 4: three faults of all, by the second segment of a.
        self.assertEqual(worst_of(system, 0, 40), (((4, 14, 24, 34),), ((0, 1, 3),)))
        self.assertEqual(worst_of(system, 1, 40), (((4, 14, 24, 34),), ((1, 1, 3),)))
        # The bodies alone: two faults of disk by the second segment of the first one, and one of all by its third.
        self.assertEqual(worst_of(system, 2, 39), (((4, 14, 24),), ((2, 1, 2), (2, 2, 1))))
        self.assertEqual(worst_of(system, 12, 39), (((12, 22, 32),), ((2, 1, 2), (2, 2, 1))))
        self.assertEqual(worst_of(system, 2, 9), (((),), ()))
        self.assertEqual(worst_of(system, 5, 5), (((),), ()))

    def test_the_items_of_the_interval_alone(self):
        # The longest segments are those of jobs that lie outside, ahead of the one that is meant.
        system = parse("budget all 1\njob a 0 to 9 do 3 all\njob b 2 to 30 do 3 all\njob c 2 to 9 do 1 all 3 all\n")
        self.assertEqual(worst_of(system, 2, 9), ((), ((2, 1, 1),)))
        self.assertEqual(worst_of(system, 0, 9), ((), ((0, 0, 1),)))
        self.assertEqual(worst_of(system, 1, 30), ((), ((1, 0, 1),)))

    def test_length_and_source_have_to_be_right(self):
        system = parse("budget all 1\nbudget disk 1\njob a 0 to 9 do 3 disk 2 all\njob b 0 to 9 do 3 all 2 disk\n")
        self.assertEqual(worst_of(system, 0, 9), ((), ((0, 0, 1), (1, 0, 1))))

    def test_ascending_by_item_and_segment(self):
        system = parse("budget all 1\nbudget disk 2\nbudget net 3\njob a 0 to 9 do 1 net 1 all\njob b 0 to 9 do 1 disk\n")
        self.assertEqual(worst_of(system, 0, 9), ((), ((0, 0, 3), (0, 1, 1), (1, 0, 2))))

    def test_against_the_document(self):
        draw = random.Random(17)
        for system in SYSTEMS:
            for _ in range(4):
                s = draw.randint(0, 20)
                e = s + draw.randint(0, 60)
                arrivals, plan = worst_of(system, s, e)
                check_arrivals(system, arrivals)
                check_plan(system, arrivals, plan)
                told = analysis(system, s, e)
                self.assertEqual(faults_of(system, arrivals, plan), told[3])
                inside = [k for k, (release, due, _, _) in enumerate(plain_items(system, arrivals))
                          if release >= s and due <= e]
                self.assertEqual(len(inside), len(plain_inside(system, s, e)))
                self.assertGreaterEqual(set(inside), set(range(len(system[2]), len(plain_items(system, arrivals)))))
                for k, (_, _, first, gap, _, _) in enumerate(system[3]):
                    self.assertEqual(arrivals[k], tuple(max(s, first) + gap * at for at in range(len(arrivals[k]))))
                needed = needs(system, arrivals, plan)
                self.assertEqual(sum(needed[k] for k in inside), told[0] + told[1])
                self.assertEqual({item for item, _, _ in plan} - set(inside), set())

    def test_the_least_index(self):
        for system in SYSTEMS:
            arrivals, plan = worst_of(system, 0, 60)
            items = plain_items(system, arrivals)
            for item, segment, _ in plan:
                wanted = items[item][3][segment]
                ahead = [(k, at) for k, row in enumerate(items) for at, other in enumerate(row[3])
                         if other == wanted and row[0] >= 0 and row[1] <= 60]
                self.assertEqual(min(ahead), (item, segment))


class SureTest(unittest.TestCase):
    """e7."""

    def test_no_item_of_a_sure_system_is_late(self):
        draw = random.Random(18)
        seen = 0
        for system in SYSTEMS + drawn_systems(100, seed=19):
            if not is_sure(system):
                continue
            for _ in range(12):
                arrivals = drawn_arrivals(draw, system)
                plan = drawn_plan(draw, system, arrivals, True)
                self.assertTrue(fits(system[1], faults_of(system, arrivals, plan)))
                self.assertEqual(run_of(system, arrivals, plan)[2], (), (system, arrivals, plan))
                seen += len(plan) > 1
        self.assertGreater(seen, 200)

    def test_of_crowded_intervals_an_item_is_late(self):
        seen = 0
        for system in SYSTEMS:
            for s, e, slack in crowded(system)[:10]:
                arrivals, plan = worst_of(system, s, e)
                self.assertTrue(fits(system[1], faults_of(system, arrivals, plan)))
                slices, _, late = run_of(system, arrivals, plan)
                self.assertNotEqual(late, ())
                self.assertEqual(verdict(system, arrivals, plan, schedule_of(slices))[0], "late")
                # No schedule is good: all that lies in the interval needs more units than there are.
                needed = needs(system, arrivals, plan)
                inside = [needed[k] for k, row in enumerate(plain_items(system, arrivals)) if row[0] >= s and row[1] <= e]
                self.assertEqual(sum(inside), e - s - slack)
                seen += 1
        self.assertGreater(seen, 100)

    def test_the_run_is_good_if_it_is_not_late(self):
        draw = random.Random(20)
        for system in SYSTEMS:
            arrivals = drawn_arrivals(draw, system)
            plan = drawn_plan(draw, system, arrivals, False)
            slices, _, late = run_of(system, arrivals, plan)
            told = verdict(system, arrivals, plan, schedule_of(slices))
            self.assertEqual(told, ("late", late[0]) if late else ("good", -1))

    def test_no_item_is_late_if_some_schedule_is_good(self):
        draw = random.Random(21)
        seen = {True: 0, False: 0}
        for _ in range(120):
            jobs = []
            for k in range(3):
                release = draw.randint(0, 2)
                segments = tuple((draw.randint(1, 2), 0) for _ in range(draw.choice((1, 1, 2))))
                jobs.append(("job", "abc"[k], release, release + draw.randint(2, 5), 0, segments))
            system = ("system", (("all", 1, -1),), tuple(jobs), ())
            plan = draw.choice(((), ((0, 0, 1),), ((2, 0, 1),)))
            some = any(verdict(system, (), plan, units)[0] == "good" for units in self.schedules(system, plan))
            self.assertIs(run_of(system, (), plan)[2] == (), some, (system, plan))
            seen[some] += 1
        self.assertGreater(min(seen.values()), 20, seen)

    def schedules(self, system, plan):
        """All ways to give each unit of time up to the last due to an item, or to none."""
        last = max(job[3] for job in system[2])
        if sum(needs(system, (), plan)) > last:
            return
        for row in product((-1, 0, 1, 2), repeat=last):
            if all(row.count(k) == need for k, need in enumerate(needs(system, (), plan))):
                yield tuple((time, time + 1, item) for time, item in enumerate(row) if item >= 0)


if __name__ == "__main__":
    unittest.main()
