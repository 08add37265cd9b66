"""Promise h2, and c1 for it."""
import copy
import random
import unittest

from faultdue import charts as module
from faultdue.charts import chart
from faultdue.plans import check_arrivals, check_plan
from faultdue.text import parse
from tests.helpers import drawn_arrivals, drawn_plan, drawn_systems, plain_items, plain_run

SYSTEMS = drawn_systems(120, seed=51)


def plain_mark(time, item, end, executed):
    """The mark of an item at a time, straight from h2; executed tells its times, and whether the attempt is faulty."""
    release, due = item[:2]
    if time in executed:
        return "x" if executed[time] else "#"
    if release <= time < end:
        return "!" if time >= due else "-"
    return "|" if time == due else "."


def plain_names(system, arrivals):
    names = [job[1] for job in system[2]]
    for task, releases in zip(system[3], arrivals):
        for k in range(len(releases)):
            names.append(task[1] + "." + str(k))
    return names


def plain_chart(system, arrivals, plan):
    """The chart, unit by unit."""
    items = plain_items(system, arrivals)
    slices, ends, late = plain_run(system, arrivals, plan)
    counts = {(item, segment): count for item, segment, count in plan}
    names = plain_names(system, arrivals)
    times = [item[1] for item in items] + list(ends)
    text = ""
    for k, item in enumerate(items):
        executed = {}
        for start, end, other, segment, attempt in slices:
            for time in range(start, end):
                if other == k:
                    executed[time] = attempt < counts.get((k, segment), 0)
        text += names[k] + " " * (max(map(len, names)) - len(names[k]) + 1)
        for time in range(max(times) + 1):
            text += plain_mark(time, item, ends[k], executed)
        text += " late\n" if k in late else "\n"
    return text


class InterfaceTest(unittest.TestCase):
    def test_example(self):
        self.assertEqual(chart(parse("budget all 0\njob a 0 to 3 do 2 all\n"), (), ()), "a ##.|\n")

    def test_defined_in_their_file(self):
        self.assertEqual(chart.__module__, module.__name__)

    def test_nothing_handed_in_is_changed(self):
        draw = random.Random(52)
        for system in SYSTEMS[:20]:
            arrivals = drawn_arrivals(draw, system)
            plan = drawn_plan(draw, system, arrivals, False)
            handed = copy.deepcopy((system, arrivals, plan))
            for _ in range(2):
                chart(*handed)
                self.assertEqual(handed, (system, arrivals, plan))


class ChartTest(unittest.TestCase):
    def assert_chart(self, text, told, arrivals=(), plan=()):
        system = parse(text)
        check_arrivals(system, arrivals)
        check_plan(system, arrivals, plan)
        self.assertEqual(chart(system, arrivals, plan), "".join(line + "\n" for line in told))

    def test_against_a_plain_walk(self):
        draw = random.Random(53)
        seen = ""
        for system in SYSTEMS:
            for within in (True, False):
                arrivals = drawn_arrivals(draw, system, 3)
                plan = drawn_plan(draw, system, arrivals, within)
                told = chart(system, arrivals, plan)
                self.assertEqual(told, plain_chart(system, arrivals, plan), (system, arrivals, plan))
                seen += told
        for mark in "#x!-|.":
            self.assertGreater(seen.count(mark), 50, mark)
        self.assertGreater(seen.count(" late\n"), 20)

    def test_each_mark(self):
        self.assert_chart(
            "budget all 1\njob a 1 to 5 do 3 all\njob b 0 to 2 do 2 all\njob c 0 to 9 do 1 all\n",
            ("a .-xxx###.. late", "b ##|.......", "c --------#|"),
            plan=((0, 0, 1),),
        )

    def test_executed_comes_ahead_of_all(self):
        # At its due and behind it a is executed, faulty and not; c only waits there.
        self.assert_chart(
            "budget all 9\njob a 0 to 2 do 4 all\njob c 1 to 3 do 1 all\n",
            ("a xxxx####.. late", "c .--!!!!!#. late"),
            plan=((0, 0, 1),),
        )

    def test_at_its_due(self):
        # It has ended then, or it ended long ago; or it is released just then.
        self.assert_chart("budget all 0\njob a 0 to 2 do 2 all\njob b 2 to 5 do 1 all\n", ("a ##|...", "b ..#..|"))
        self.assert_chart("budget all 0\njob a 3 to 3 do 1 all\n", ("a ...#. late",))
        self.assert_chart("budget all 0\njob a 3 to 3 do 1 all\njob b 2 to 2 do 2 all\n",
                          ("a ...!#. late", "b ..##.. late"))

    def test_the_last_time_is_the_greatest_of_all_dues_and_ends(self):
        self.assert_chart("budget all 0\njob a 0 to 1 do 1 all\njob b 2 to 7 do 1 all\n", ("a #|......", "b ..#....|"))
        self.assert_chart("budget all 0\njob a 0 to 1 do 4 all\njob b 0 to 2 do 1 all\n",
                          ("a ####.. late", "b --!!#. late"))

    def test_names(self):
        self.assert_chart(
            "budget all 0\njob a 0 to 2 do 1 all\njob abcdefgh 0 to 3 do 1 all\njob b.12 0 to 4 do 1 all\n"
            "task to from 0 gap 2 due 6 do 1 all\ntask c from 7 gap 50 due 2 do 1 all\n",
            ("a        #.|.......", "abcdefgh -#.|......", "b.12     --#.|.....", "to.0     ---#..|...",
             "to.1     ..--#...|.", "c.0      .......#.|"),
            ((0, 2), (7,)),
        )

    def test_numbers_of_two_digits(self):
        system = parse("budget all 0\ntask t from 0 gap 2 due 1 do 1 all\n")
        lines = chart(system, (tuple(range(0, 22, 2)),), ()).split("\n")
        self.assertEqual(lines[0], "t.0  #|....................")
        self.assertEqual(lines[10], "t.10 ....................#|")
        self.assertEqual(lines[11:], [""])

    def test_items_that_need_nothing(self):
        # They end at their release: they never wait.
        self.assert_chart("budget all 0\njob a 2 to 5 done 4 do 4 all\njob b 0 to 4 do 4 all\n", ("a .....|", "b ####|."))
        self.assert_chart("budget all 0\njob a 5 to 5 done 4 do 4 all\n", ("a .....|",))

    def test_the_faulty_attempts_are_the_first_ones(self):
        # One unit is left of the present attempt.
        text = "budget all 2\njob a 0 to 9 done 2 do 3 all 1 all\n"
        for plan, told in (
            ((), "a ##.......|"), (((0, 0, 1),), "a x####....|"), (((0, 0, 2),), "a xxxx####.|"),
            (((0, 1, 1),), "a #x#......|"), (((0, 0, 1), (0, 1, 2)), "a x###xx#..|"),
        ):
            self.assert_chart(text, (told,), plan=plan)
        # The present attempt is whole and has no unit: only the next one is seen.
        self.assert_chart("budget all 2\njob a 1 to 9 done 3 do 3 all\n", ("a .xxx###..|",), plan=((0, 0, 2),))

    def test_far_away(self):
        lines = chart(parse("budget all 0\ntask t from 0 gap 9 due 3 do 1 all\n"), ((0, 1000000),), ()).split("\n")
        self.assertEqual([len(line) for line in lines], [4 + 1000004, 4 + 1000004, 0])
        self.assertEqual((lines[0][:9], lines[1][-5:]), ("t.0 #..|.", ".#..|"))

    def test_no_items(self):
        self.assertEqual(chart(parse("budget all 1"), (), ()), "")
        self.assertEqual(chart(parse("budget all 1\ntask t from 0 gap 9 due 3 do 1 all"), ((),), ()), "")


if __name__ == "__main__":
    unittest.main()
