"""Promises w1 to w3, and c1 for them."""
import copy
import random
import time
import unittest

from faultdue import picks as module
from faultdue.admission import is_sure, paper_of
from faultdue.judge import judge
from faultdue.picks import best_pick, full_picks, picked
from faultdue.systems import check_system, horizon_of
from faultdue.text import parse
from tests.helpers import drawn_budgets, drawn_job, drawn_task, drawn_systems, names, plain_walk, put, refusal, subsets

EXAMPLE = "budget all 0\njob a 0 to 5 do 4 all\njob b 0 to 5 do 2 all\njob c 0 to 6 do 3 all\n"
# Its task alone is not sure.
HOPELESS = "budget all 1\njob a 0 to 50 do 1 all\ntask t from 0 gap 30 due 5 do 3 all\n"


def kept(system, pick):
    """The system with the jobs of these indices alone."""
    return put(system, 2, tuple(job for k, job in enumerate(system[2]) if k in pick))


def plainly_sure(system):
    return all(slack >= 0 for _, _, slack in plain_walk(system))


def plain_picks(system, sure=plainly_sure):
    """All sure picks, in the order of w2, each asked by itself."""
    return [pick for pick in subsets(len(system[2])) if sure(kept(system, pick))]


def plain_best(picks, worths):
    """The first one of the picks with the greatest worth, and its worth."""
    most = max(sum(worths[k] for k in pick) for pick in picks)
    return next(pick for pick in picks if sum(worths[k] for k in pick) == most), most


def plain_full(picks, many):
    return tuple(
        pick for pick in picks
        if not any(tuple(sorted(pick + (k,))) in picks for k in range(many) if k not in pick)
    )


def drawn_tight(draw, many):
    """A system of so many jobs, some of which are in each other's way."""
    while True:
        budgets = drawn_budgets(draw)
        jobs = tuple(drawn_job(draw, name, len(budgets), 3 * many, 6 * many) for name in names(many))
        tasks = tuple(drawn_task(draw, "t" + "ab"[k], len(budgets)) for k in range(draw.choice((0, 0, 1))))
        system = ("system", budgets, jobs, tasks)
        if refusal(check_system, system) is None and horizon_of(system) <= 150:
            return system


SYSTEMS = drawn_systems(40, seed=31) + [drawn_tight(random.Random(seed), 5) for seed in range(30)]


class InterfaceTest(unittest.TestCase):
    def test_example(self):
        system = parse(EXAMPLE)
        self.assertEqual((best_pick(system, (5, 3, 3))[1:3], full_picks(system)), (((1, 2), 6), ((0,), (1, 2))))

    def test_defined_in_their_file(self):
        for name in ("picked", "best_pick", "full_picks"):
            self.assertEqual(getattr(module, name).__module__, "faultdue.picks")

    def test_nothing_handed_in_is_changed(self):
        for system in SYSTEMS[:10] + [parse(HOPELESS)]:
            worths = tuple(range(len(system[2])))
            handed = copy.deepcopy((system, worths))
            for _ in range(2):
                best_pick(*handed), full_picks(handed[0]), picked(handed[0], ())
                self.assertEqual(handed, (system, worths))


class PickedTest(unittest.TestCase):
    """w1."""

    def test_jobs_alone_are_left_out(self):
        for system in SYSTEMS:
            for pick in subsets(len(system[2])):
                self.assertEqual(picked(system, pick), kept(system, pick))

    def test_the_empty_pick_and_all_jobs(self):
        system = parse(EXAMPLE + "task t from 3 gap 50 due 9 do 1 all\n")
        self.assertEqual(picked(system, ()), ("system", system[1], (), system[3]))
        self.assertEqual(picked(system, (0, 1, 2)), system)
        self.assertEqual(picked(system, (0, 2))[2], (system[2][0], system[2][2]))
        self.assertEqual(picked(parse("budget all 1"), ()), parse("budget all 1"))

    def test_what_is_left_of_a_sure_pick_is_sure(self):
        seen = 0
        for system in SYSTEMS:
            picks = plain_picks(system)
            for pick in picks:
                for k in pick:
                    seen += 1
                    self.assertIn(tuple(other for other in pick if other != k), picks)
        self.assertGreater(seen, 100)


class BestTest(unittest.TestCase):
    """w2."""

    def assert_best(self, system, worths, picks):
        told = best_pick(system, worths)
        if not picks:
            without = put(system, 2, ())
            self.assertEqual(told, ("none", paper_of(without)))
            self.assertIs(judge(without, told[1]), True)
            self.assertEqual(told[1][0], "unsure")
            return
        pick, worth = plain_best(picks, worths)
        self.assertEqual(told, ("pick", pick, worth, paper_of(kept(system, pick))), (system, worths))
        self.assertIs(judge(kept(system, pick), told[3]), True)
        self.assertEqual(told[3][0], "sure")

    def test_against_all_subsets(self):
        draw = random.Random(32)
        wholes = []
        for system in SYSTEMS:
            many = len(system[2])
            picks = plain_picks(system)
            wholes.append(tuple(range(many)) in picks)
            for worths in (tuple(draw.randint(0, 1000) for _ in range(many)), (0,) * many, (7,) * many,
                           tuple(draw.randint(0, 2) for _ in range(many)), (1000,) * many):
                self.assert_best(system, worths, picks)
        self.assertGreater(wholes.count(True), 10)
        self.assertGreater(wholes.count(False), 10)

    def test_worths_of_0_are_kept_where_they_can(self):
        system = parse(EXAMPLE)
        self.assertEqual(best_pick(system, (0, 0, 0))[1:3], ((0,), 0))
        self.assertEqual(best_pick(system, (0, 1, 0))[1:3], ((1, 2), 1))
        roomy = parse("budget all 0\njob a 0 to 50 do 4 all\njob b 0 to 50 do 2 all\n")
        self.assertEqual(best_pick(roomy, (0, 0))[1:3], ((0, 1), 0))
        self.assertEqual(best_pick(roomy, (0, 9))[1:3], ((0, 1), 9))

    def test_the_first_of_equal_worth(self):
        system = parse(EXAMPLE)
        self.assertEqual(best_pick(system, (6, 3, 3))[1:3], ((0,), 6))
        self.assertEqual(best_pick(system, (6, 4, 3))[1:3], ((1, 2), 7))
        # Each two of these three are sure, all three are not: to keep index 1 comes ahead of keeping 2.
        three = parse("budget all 0\njob a 0 to 4 do 2 all\njob b 0 to 4 do 2 all\njob c 0 to 4 do 2 all\n")
        self.assertEqual(best_pick(three, (4, 4, 4))[1:3], ((0, 1), 8))
        self.assertEqual(best_pick(three, (1, 4, 4))[1:3], ((1, 2), 8))
        self.assertEqual(best_pick(three, (4, 1, 4))[1:3], ((0, 2), 8))
        self.assertEqual(full_picks(three), ((0, 1), (0, 2), (1, 2)))

    def test_none(self):
        system = parse(HOPELESS)
        self.assertEqual(best_pick(system, (5,)), ("none", ("unsure", 0, 5, (1,))))
        self.assertEqual(full_picks(system), ())

    def test_without_jobs(self):
        self.assertEqual(best_pick(parse("budget all 1"), ()), ("pick", (), 0, ("sure", ())))
        alone = parse("budget all 1\ntask t from 0 gap 30 due 6 do 3 all\n")
        self.assertEqual(best_pick(alone, ()), ("pick", (), 0, ("sure", ((3,),))))
        self.assertEqual(full_picks(alone), ((),))
        hopeless = put(parse(HOPELESS), 2, ())
        self.assertEqual((best_pick(hopeless, ())[0], full_picks(hopeless)), ("none", ()))

    def test_ten_jobs(self):
        draw = random.Random(33)
        for _ in range(6):
            system = drawn_tight(draw, 10)
            picks = plain_picks(system, is_sure)
            for worths in (tuple(draw.randint(0, 1000) for _ in range(10)), (3,) * 10,
                           tuple(draw.randint(0, 3) for _ in range(10))):
                self.assert_best(system, worths, picks)
            self.assertEqual(full_picks(system), plain_full(picks, 10))

    def test_ten_jobs_are_quick(self):
        roomy = parse("budget all 3\nbudget disk 1 in all\n" + "".join(
            [f"job {name} {k} to {400 + 20 * k} do 5 all 3 disk\n" for k, name in enumerate(names(10))]
        ) + "task t from 0 gap 20 due 200 do 3 disk\n")
        began = time.perf_counter()
        told = best_pick(roomy, (1,) * 10)
        self.assertEqual((told[1:3], full_picks(roomy)), ((tuple(range(10)), 10), (tuple(range(10)),)))
        self.assertLess(time.perf_counter() - began, 10)


class FullTest(unittest.TestCase):
    """w3."""

    def test_against_all_subsets(self):
        many = []
        for system in SYSTEMS:
            told = full_picks(system)
            self.assertEqual(told, plain_full(plain_picks(system), len(system[2])), system)
            many.append(len(told))
        self.assertGreaterEqual(max(many), 3)
        self.assertIn(0, many)

    def test_the_empty_pick_is_full(self):
        self.assertEqual(full_picks(parse("budget all 0\njob a 0 to 1 do 2 all\njob b 5 to 6 do 2 all\n")), ((),))
        self.assertEqual(full_picks(parse("budget all 0")), ((),))

    def test_kinds(self):
        told = full_picks(parse(EXAMPLE))
        for row in (told,) + told:
            self.assertIsInstance(row, tuple)


if __name__ == "__main__":
    unittest.main()
