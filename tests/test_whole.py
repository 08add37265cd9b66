"""Promises c0 and c1 over the whole program."""
import copy
import importlib
import random
import unittest

from faultdue.admission import paper_of
from faultdue.charts import chart
from faultdue.dangers import bearable, least_faults
from faultdue.desk import Desk
from faultdue.errors import BadState, FaultError
from faultdue.judge import judge
from faultdue.papertext import parse_paper, shown_paper
from faultdue.picks import best_pick
from faultdue.plans import check_plan, faults_of
from faultdue.replay import replay
from faultdue.schedules import run_of, verdict, worst_of
from faultdue.sessions import parse_session, shown_session
from faultdue.systems import check_system
from faultdue.tables import table
from faultdue.text import parse, shown
from tests.helpers import drawn_arrivals, drawn_plan, drawn_systems, fits, refusal
from tests.plain_desk import drawn_deed, outcome, seen

SYSTEMS = drawn_systems(120, seed=91)


def thing_of(item):
    return item[:4] + item[5:] if item[0] == "job" else item


class PromiseTest(unittest.TestCase):
    """c0."""

    def test_a_paper_for_each_system(self):
        """The judge takes it; nobody is late if it says so, else no schedule is good under the worst."""
        draw = random.Random(92)
        kinds = []
        for system in SYSTEMS:
            paper = paper_of(parse(shown(system)))
            self.assertIs(judge(system, parse_paper(shown_paper(paper), len(system[1]))), True)
            kinds.append(paper[0])
            if paper[0] == "sure":
                for _ in range(5):
                    arrivals = drawn_arrivals(draw, system)
                    plan = drawn_plan(draw, system, arrivals, True)
                    self.assertEqual(run_of(system, arrivals, plan)[2], ())
                    self.assertNotIn(" late\n", chart(system, arrivals, plan))
            else:
                arrivals, plan = worst_of(system, *paper[1:3])
                self.assertIsNone(check_plan(system, arrivals, plan))
                self.assertTrue(fits(system[1], faults_of(system, arrivals, plan)))
                slices, _, late = run_of(system, arrivals, plan)
                self.assertNotEqual(late, ())
                schedule = tuple(row[:3] for row in slices)
                self.assertEqual(verdict(system, arrivals, plan, schedule)[0], "late")
                self.assertIn(" late\n", chart(system, arrivals, plan))
        self.assertGreater(min(kinds.count("sure"), kinds.count("unsure")), 25)

    def test_all_say_the_same_of_a_system(self):
        for system in SYSTEMS:
            sure = paper_of(system)[0] == "sure"
            self.assertIs(least_faults(system) == (), sure)
            self.assertIs(table(system) != "not sure\n", sure)
            picked = best_pick(system, (1000,) * len(system[2]))
            self.assertIs(picked[:2] == ("pick", tuple(range(len(system[2])))), sure)
            if not sure:
                self.assertEqual(bearable(system), sum(least_faults(system)[2]) - 1)

    def test_the_desk_admits_what_is_sure(self):
        """A desk at time 0 admits a system of which nothing is done, one by one, exactly if it is sure."""
        told = []
        for system in SYSTEMS:
            items = [item[:4] + (0,) + item[5:] if item[0] == "job" else item for item in system[2] + system[3]]
            desk = Desk(system[1])
            answers = [desk.admit(thing_of(item)) for item in items]
            jobs = tuple(item for item in items if item[0] == "job")
            fresh = ("system", system[1], jobs, system[3])
            if refusal(check_system, fresh) is None:
                told.append(all(answer == ("admitted",) for answer in answers))
                self.assertIs(told[-1], paper_of(fresh)[0] == "sure")
        self.assertGreater(min(told.count(True), told.count(False)), 20)

    def test_the_whole_way(self):
        """A desk's log as a text, read, replayed, and its remaining system with its paper as texts."""
        for seed in range(30):
            draw = random.Random(seed + 900)
            budgets = SYSTEMS[seed][1]
            desk = Desk(budgets)
            for _ in range(60):
                word, *values = drawn_deed(draw, desk)
                outcome(getattr(desk, word), *values)
            again = replay(*parse_session(shown_session(budgets, desk.log())))
            self.assertEqual(seen(again), seen(desk))
            system = parse(shown(again.remaining()))
            self.assertEqual(system, desk.remaining())
            paper = parse_paper(shown_paper(paper_of(system)), len(budgets))
            self.assertEqual((paper[0], judge(system, paper)), ("sure", True))
            self.assertTrue(all(end <= due for _, end, due in desk.finished()))


class ErrorsTest(unittest.TestCase):
    def test_they_are_raised_so(self):
        with self.assertRaises(BadState) as caught:
            Desk((("all", 1, -1),)).undo()
        self.assertEqual(vars(caught.exception), {})
        with self.assertRaises(FaultError):
            replay((("all", 1, -1),), ("x",))


class UnchangedTest(unittest.TestCase):
    """c1: lists that are handed in where a tuple should stand are refused, and are as before."""

    def test_lists_are_not_changed(self):
        calls = (
            ("systems", "check_system", (["system", [["all", 1, -1]], [], []],)),
            ("budgets", "check_budgets", ([["all", 1, -1]],)),
            ("desk", "Desk", ([("all", 1, -1)],)),
            ("replay", "replay", ((("all", 1, -1),), (["run", 5], [[]]))),
            ("replay", "replay", ((("all", 1, -1),), (("admit", ["job", "a", 0, 7, [(2, 0)]]),))),
        )
        for name, function, values in calls:
            handed = copy.deepcopy(values)
            told = outcome(getattr(importlib.import_module(f"faultdue.{name}"), function), *handed)
            self.assertIn(told[0], ("BadSystem", "BadEntry"))
            self.assertEqual(handed, values)
        desk = Desk((("all", 1, -1),))
        thing = ["job", "a", 0, 7, [[2, 0]]]
        self.assertEqual(outcome(desk.admit, thing), ("BadSystem", 0, "not a system"))
        self.assertEqual(thing, ["job", "a", 0, 7, [[2, 0]]])

    def test_booleans_are_no_integers(self):
        budgets = (("all", 1, -1),)
        desk = Desk(budgets)
        self.assertEqual(outcome(desk.run, True), "BadState")
        self.assertEqual(outcome(desk.run, False), "BadState")
        self.assertEqual(outcome(desk.grant, False, 1), "BadState")
        self.assertEqual(outcome(desk.grant, 0, True), "BadState")
        self.assertEqual(outcome(desk.admit, ("job", "a", False, 7, ((2, 0),))), ("BadSystem", 0, "not a system"))
        self.assertEqual(outcome(desk.admit, ("job", "a", 0, 7, ((True, 0),))), ("BadSystem", 0, "not a system"))
        self.assertEqual(outcome(desk.admit, ("job", "a", 0, 7, ((2, False),))), ("BadSystem", 0, "not a system"))
        self.assertEqual(outcome(replay, budgets, (("report", 1),)), ("BadEntry", 0))
        self.assertEqual(outcome(replay, budgets, (("run", True),)), ("BadEntry", 0))
        self.assertEqual(seen(desk), seen(Desk(budgets)))
        self.assertIs(judge(parse("budget all 1"), ("unsure", False, 0, (0,))), False)


if __name__ == "__main__":
    unittest.main()
