"""Promise p1, and c1 for it."""
import copy
import random
import unittest

from faultdue import judge as module
from faultdue.admission import crowded, is_sure, paper_of
from faultdue.demand import analysis
from faultdue.judge import judge
from faultdue.text import parse
from tests.helpers import (
    NO_INTEGERS, drawn_systems, fits, line_up, plain_demand, plain_penalties, plain_walk, put,
)

SYSTEMS = drawn_systems(120, seed=6)
SURE = parse("budget all 2\nbudget disk 1 in all\njob a 0 to 6 do 2 all\njob b 0 to 11 do 3 disk 1 all\n"
             "job c 3 to 15 do 3 all\n")
ROWS = ((2, 0), (2, 1), (3, 0))
UNSURE = parse("budget all 2\nbudget disk 1 in all\njob a 0 to 9 do 1 all\njob b 1 to 7 do 4 disk\n"
               "job c 1 to 9 do 2 all\n")
# A sure and an unsure system of a task that goes on for ever.
TASK = parse("budget all 1\ntask a from 3 gap 10 due 7 do 2 all\n")
CROWDED = parse("budget all 1\ntask a from 3 gap 10 due 7 do 4 all\n")


def plain_judge(system, rows):
    """Do the rows prove that the system is sure, interval by interval and row by row?"""
    budgets = system[1]
    for s, e, _ in plain_walk(system):
        penalties = plain_penalties(system, s, e)
        found = False
        for row in rows:
            covers = all(sum(row[b] for b in line_up(budgets, k)) >= penalties[k] for k in range(len(budgets)))
            bound = sum(budget[1] * price for budget, price in zip(budgets, row))
            found = found or (covers and plain_demand(system, s, e) + bound <= e - s)
        if not found:
            return False
    return True


def plain_unsure(system, s, e, faults):
    penalties = plain_penalties(system, s, e)
    recovery = sum(p * f for p, f in zip(penalties, faults))
    return fits(system[1], faults) and plain_demand(system, s, e) + recovery > e - s


class InterfaceTest(unittest.TestCase):
    def test_example(self):
        system = parse("budget cpu 1\njob a 0 to 10 do 3 cpu\njob b 2 to 9 do 2 cpu\n")
        self.assertEqual(
            (judge(system, ("sure", ((3,),))), judge(system, ("sure", ((1,),))), judge(system, ("unsure", 0, 10, (1,)))),
            (True, False, False),
        )

    def test_defined_in_their_file(self):
        self.assertEqual(judge.__module__, "faultdue.judge")
        self.assertIs(module.judge, judge)

    def test_nothing_handed_in_is_changed(self):
        for system, paper in ((SURE, ("sure", ROWS)), (UNSURE, ("unsure", 0, 7, (0, 1))), (SURE, ["sure", [[2, 0]]])):
            before = copy.deepcopy((system, paper))
            for _ in range(2):
                judge(system, paper)
                self.assertEqual((system, paper), before)


class JudgeCase(unittest.TestCase):
    def assert_judged(self, system, told, *papers):
        for paper in papers:
            with self.subTest(paper=paper):
                self.assertIs(judge(system, paper), told)


class SurePaperTest(JudgeCase):
    def test_papers_that_hold(self):
        self.assert_judged(SURE, True, ("sure", ROWS), ("sure", ROWS[::-1]), ("sure", ROWS + ROWS),
                           ("sure", ((9, 9),) + ROWS), ("sure", ROWS + ((0, 0),)), ("sure", ROWS + ((10**30, 0),)))

    def test_a_row_left_out(self):
        # The row that is left out proves an interval for which the bounds of the others are too great, or too small.
        self.assert_judged(SURE, False, ("sure", ROWS[1:]), ("sure", ROWS[:2]), ("sure", ROWS[::2]), ("sure", ()))

    def test_prices_too_small_and_too_great(self):
        self.assert_judged(SURE, False, ("sure", ROWS[:1] + ((2, 0), (3, 0))), ("sure", ROWS[:2] + ((2, 9),)),
                           ("sure", ROWS[:2] + ((3, 1),)), ("sure", ((2, 0), (1, 2), (3, 0))))

    def test_rows_spoilt(self):
        for row in ((2,), (2, 0, 0), (), (-1, 3), (2, -1), [2, 0], None, 2, "ab", ((2, 0),), {}):
            self.assert_judged(SURE, False, ("sure", ROWS + (row,)), ("sure", (row,) + ROWS))
        for number in NO_INTEGERS + (-1, -10**30):
            self.assert_judged(SURE, False, ("sure", ROWS + ((number, 5),)), ("sure", ((5, number),) + ROWS))

    def test_a_boolean_that_would_do(self):
        system = parse("budget all 1\njob a 0 to 9 do 1 all\n")
        self.assert_judged(system, True, ("sure", ((1,),)))
        self.assert_judged(system, False, ("sure", ((True,),)), ("sure", ((1,), (True,))), ("sure", ((1,), (False,))))

    def test_rows_spoilt_where_nothing_has_to_be_proven(self):
        system = parse("budget all 1\nbudget disk 1")
        self.assert_judged(system, True, ("sure", ()), ("sure", ((0, 0),)), ("sure", ((7, 5), (1, 1))))
        self.assert_judged(system, False, ("sure", ((0,),)), ("sure", ((0, 0, 0),)), ("sure", ((0, -1),)),
                           ("sure", ((0, True),)), ("sure", ([0, 0],)), ("sure", []), ("sure", None), ("sure", "ab"))

    def test_a_row_for_each_interval_not_one_for_all(self):
        # Each row fails for some interval, and none is left without a row that proves it.
        self.assert_judged(SURE, False, *[("sure", (row,)) for row in ROWS])
        self.assert_judged(SURE, True, ("sure", ROWS))

    def test_of_several_starts(self):
        # The row proves all intervals that begin at 0; the task's begin later.
        system = parse("budget all 1\nbudget disk 1\njob a 0 to 4 do 2 all\ntask b from 9 gap 20 due 5 do 2 disk\n")
        self.assert_judged(system, True, ("sure", ((2, 0), (0, 2), (2, 2))))
        self.assert_judged(system, False, ("sure", ((2, 0), (2, 2))), ("sure", ((2, 0),)), ("sure", ((0, 2), (2, 2))))

    def test_the_last_start_counts(self):
        system = parse("budget all 0\njob a 5 to 5 do 1 all\n")
        self.assert_judged(system, False, ("sure", ((1,),)))

    def test_an_interval_as_long_as_the_horizon_counts(self):
        # Work 2 and a fault with 2: the horizon is 4.
        system = parse("budget all 1\njob a 3 to 7 do 2 all\n")
        self.assert_judged(system, True, ("sure", ((2,),)))
        self.assert_judged(system, False, ("sure", ((1,),)), ("sure", ()), ("sure", ((3,),)))
        # An interval that is longer needs no row.
        self.assert_judged(parse("budget all 1\njob a 3 to 8 do 2 all\n"), True, ("sure", ()), ("sure", ((3,),)))

    def test_for_unsure_systems_no_rows_hold(self):
        for system in (UNSURE, CROWDED):
            for a in range(6):
                for b in range(6):
                    rows = ((a, b)[: len(system[1])], (5, 5)[: len(system[1])])
                    self.assert_judged(system, False, ("sure", rows))

    def test_against_a_plain_walk(self):
        draw = random.Random(7)
        told = []
        for system in SYSTEMS:
            paper = paper_of(system)
            rows = paper[1] if paper[0] == "sure" else ((1,) * len(system[1]),)
            for _ in range(4):
                spoilt = list(rows)
                for k, row in enumerate(spoilt):
                    at = draw.randrange(len(row))
                    spoilt[k] = put(row, at, max(0, row[at] + draw.choice((-1, 0, 0, 0, 1))))
                spoilt = tuple(row for row in spoilt if draw.random() < 0.9)
                told.append(judge(system, ("sure", spoilt)))
                self.assertIs(told[-1], plain_judge(system, spoilt), (system, spoilt))
        self.assertGreater(told.count(True), 40)
        self.assertGreater(told.count(False), 40)


class UnsurePaperTest(JudgeCase):
    def test_papers_that_hold(self):
        self.assert_judged(UNSURE, True, ("unsure", 0, 7, (0, 1)), ("unsure", 1, 7, (0, 1)), ("unsure", 0, 9, (1, 1)),
                           ("unsure", 0, 9, (0, 1)), ("unsure", 1, 9, (0, 1)), ("unsure", 1, 9, (1, 1)))
        self.assert_judged(CROWDED, True, ("unsure", 3, 10, (1,)), ("unsure", 10**9 - 7, 10**9, (1,)))

    def test_the_interval_moved(self):
        self.assert_judged(UNSURE, False, ("unsure", 2, 7, (0, 1)), ("unsure", 0, 6, (0, 1)), ("unsure", 0, 8, (0, 1)),
                           ("unsure", 0, 14, (1, 1)), ("unsure", 7, 7, (0, 1)), ("unsure", 2, 9, (0, 1)))
        self.assert_judged(CROWDED, False, ("unsure", 2, 10, (1,)), ("unsure", 3, 9, (1,)), ("unsure", 3, 11, (1,)))

    def test_s_and_e(self):
        for s in NO_INTEGERS + (-1, 8, 10**30):
            self.assert_judged(UNSURE, False, ("unsure", s, 7, (0, 1)))
        for e in NO_INTEGERS + (-1, 0, 10**30):
            self.assert_judged(UNSURE, False, ("unsure", 0, e, (0, 1)), ("unsure", 1, e, (0, 1)))

    def test_length_0(self):
        system = parse("budget all 0\njob a 5 to 5 do 1 all\n")
        self.assert_judged(system, True, ("unsure", 5, 5, (0,)))
        self.assert_judged(system, False, ("unsure", 5, 4, (0,)), ("unsure", 6, 6, (0,)), ("unsure", 4, 4, (0,)))

    def test_e_below_s(self):
        # Nothing lies in it, but it would be longer than e - s.
        self.assert_judged(UNSURE, False, ("unsure", 9, 7, (0, 0)), ("unsure", 1, 0, (0, 0)))

    def test_e_at_most_a_thousand_millions(self):
        self.assert_judged(CROWDED, True, ("unsure", 10**9 - 7, 10**9, (1,)))
        self.assert_judged(CROWDED, False, ("unsure", 10**9 - 6, 10**9 + 1, (1,)),
                           ("unsure", 10**9 + 10, 10**9 + 17, (1,)), ("unsure", 10**30, 10**30 + 7, (1,)),
                           ("unsure", 0, 10**9, (1,)), ("unsure", 10**9, 10**9, (1,)))
        self.assert_judged(TASK, False, ("unsure", 10**9 - 7, 10**9, (1,)), ("unsure", 3, 10**9, (1,)))

    def test_faults_beyond_the_budgets(self):
        self.assert_judged(UNSURE, False, ("unsure", 0, 7, (0, 2)), ("unsure", 0, 9, (2, 1)), ("unsure", 0, 9, (3, 0)),
                           ("unsure", 0, 9, (0, 10**30)), ("unsure", 0, 9, (10**30, 0)))

    def test_too_few_faults(self):
        self.assert_judged(UNSURE, False, ("unsure", 0, 7, (0, 0)), ("unsure", 0, 7, (1, 0)), ("unsure", 0, 7, (2, 0)),
                           ("unsure", 0, 9, (0, 0)), ("unsure", 0, 9, (1, 0)))
        self.assert_judged(UNSURE, True, ("unsure", 0, 9, (2, 0)), ("unsure", 1, 9, (2, 0)))

    def test_faults_spoilt(self):
        for faults in ((1,), (0, 1, 0), (), [0, 1], None, 1, "ab", ((0, 1),), (-1, 1), (0, -1), (1, -1)):
            self.assert_judged(UNSURE, False, ("unsure", 0, 7, faults), ("unsure", 0, 9, faults))
        for number in NO_INTEGERS:
            self.assert_judged(UNSURE, False, ("unsure", 0, 9, (number, 1)), ("unsure", 0, 7, (0, number)))

    def test_for_sure_systems_none_holds(self):
        for system in SYSTEMS[:60] + [SURE, TASK]:
            if is_sure(system):
                for s, e, _ in plain_walk(system)[:20]:
                    self.assert_judged(system, False, ("unsure", s, e, analysis(system, s, e)[3]))

    def test_against_a_plain_walk(self):
        draw = random.Random(8)
        told = []
        for system in SYSTEMS:
            rows = crowded(system)
            for s, e, _ in draw.sample(rows, min(len(rows), 6)):
                faults = analysis(system, s, e)[3]
                at = draw.randrange(len(faults))
                spoilt = put(faults, at, max(0, faults[at] + draw.choice((-1, 0, 1))))
                s, e = max(0, s + draw.choice((-1, 0, 0, 1))), e + draw.choice((0, 0, 1))
                told.append(judge(system, ("unsure", s, e, spoilt)))
                self.assertIs(told[-1], e >= s and plain_unsure(system, s, e, spoilt), (system, s, e, spoilt))
        self.assertGreater(told.count(True), 40)
        self.assertGreater(told.count(False), 40)


class NoPaperTest(JudgeCase):
    def test_other_words_and_parts(self):
        self.assert_judged(SURE, False, ("Sure", ROWS), ("unsure", ROWS), ("", ROWS), (None, ROWS), (("sure",), ROWS),
                           ("sure",), ("sure", ROWS, ()), ("sure", ROWS, 0, 0), (ROWS,), (ROWS, "sure"), ["sure", ROWS],
                           ("sure", list(ROWS)), ("sure", tuple(list(row) for row in ROWS)))
        self.assert_judged(UNSURE, False, ("sure", 0, 7, (0, 1)), ("Unsure", 0, 7, (0, 1)), ("unsure", 0, 7),
                           ("unsure", 0, 7, (0, 1), 0), ("unsure", 0, 7, 0, 1), ["unsure", 0, 7, (0, 1)],
                           (0, 7, (0, 1)), ("unsure", 7, 0, (0, 1)), ("unsure",), ("unsure", (0, 7), (0, 1)),
                           ("unsure", 0, (0, 1), 7))

    def test_values_that_are_no_paper(self):
        deep = ()
        for _ in range(50000):
            deep = (deep,)
        for value in (None, "", "sure", "unsure", 0, 7, True, False, (), [], [[]], ((),), deep, ("sure", deep),
                      ("sure", (deep,)), ("sure", ((deep, 0),)), (deep, ROWS), ("unsure", 0, 7, deep),
                      ("unsure", deep, 7, (0, 1)), ("unsure", 0, 7, (deep, 1)), [["sure", []]]):
            self.assertIs(judge(SURE, value), False)
            self.assertIs(judge(UNSURE, value), False)
            self.assertIs(judge(TASK, value), False)


if __name__ == "__main__":
    unittest.main()
