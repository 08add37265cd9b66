"""Promise h4 with g1 and g2, and c1 for it."""
import copy
import unittest

from faultdue import tables as module
from faultdue.admission import crowded, is_sure, tightest
from faultdue.margins import earliest_due, greatest_capacity, least_gap, longest_length
from faultdue.systems import check_system
from faultdue.tables import table
from faultdue.text import parse
from tests.helpers import drawn_systems, put, refusal

SYSTEMS = drawn_systems(60, seed=81)
NONE = (("all", 0, -1),)


def plain_table(system):
    """The table, line by line."""
    if refusal(check_system, system) is not None or crowded(system):
        return "not sure\n"
    _, budgets, jobs, tasks = system
    text = ""
    if tightest(system):
        text += "tightest {} to {} slack {}\n".format(*tightest(system))
    for k in range(len(budgets)):
        text += "budget " + budgets[k][0] + f" {budgets[k][1]} up to {greatest_capacity(system, k)}\n"
    for kind, items in (("job", jobs), ("task", tasks)):
        for k, item in enumerate(items):
            text += f"{kind} {item[1]} "
            if kind == "task":
                text += f"gap {item[3]} down to {least_gap(system, k)}, "
            text += f"due {item[3] if kind == 'job' else item[4]} down to {earliest_due(system, kind, k)}"
            for at, segment in enumerate(item[5]):
                text += f", {segment[0]} up to {longest_length(system, kind, k, at)}"
            text += "\n"
    return text


class TableTest(unittest.TestCase):
    def test_defined_in_its_file(self):
        self.assertEqual(table.__module__, module.__name__)

    def test_drawn_systems(self):
        told = [table(system) for system in SYSTEMS]
        self.assertEqual(told, [plain_table(system) for system in SYSTEMS])
        self.assertEqual([text == "not sure\n" for text in told], [not is_sure(system) for system in SYSTEMS])
        self.assertGreater(told.count("not sure\n"), 10)
        self.assertLess(told.count("not sure\n"), 50)

    def test_jobs(self):
        self.assertEqual(table(parse("budget cpu 1\njob a 0 to 10 do 3 cpu\njob b 2 to 9 do 2 cpu\n")), (
            "tightest 2 to 9 slack 3\n"
            "budget cpu 1 up to 1\n"
            "job a due 10 down to 6, 3 up to 4\n"
            "job b due 9 down to 6, 2 up to 3\n"
        ))

    def test_tasks_and_several_budgets_and_segments(self):
        text = ("budget all 2\nbudget disk 1 in all\nbudget off 0\njob a 900 to 1000 done 2 do 4 disk 3 all 1 off\n"
                "task b from 2 gap 30 due 7 do 2 disk\n")
        system = parse(text)
        told = table(system)
        self.assertEqual(told, plain_table(system))
        lines = told.split("\n")
        self.assertEqual([line.split(" ")[0] for line in lines],
                         ["tightest", "budget", "budget", "budget", "job", "task", ""])
        self.assertEqual(lines[:4], ["tightest 2 to 9 slack 3", "budget all 2 up to 20", "budget disk 1 up to 20",
                                     "budget off 0 up to 20"])
        self.assertRegex(lines[4], r"^job a due 1000 down to \d+, 4 up to \d+, 3 up to \d+, 1 up to \d+$")
        self.assertRegex(lines[5], r"^task b gap 30 down to \d+, due 7 down to 4, 2 up to 3$")

    def test_without_jobs_and_tasks(self):
        self.assertEqual(table(parse("budget all 2\nbudget disk 1 in all")), "budget all 2 up to 20\nbudget disk 1 up to 20\n")

    def test_without_an_interval(self):
        # The horizon is 2, and the job is due far behind it.
        self.assertEqual(table(parse("budget cpu 1\njob a 5 to 90 do 1 cpu\n")),
                         "budget cpu 1 up to 20\njob a due 90 down to 7, 1 up to 42\n")

    def test_tasks_alone(self):
        self.assertEqual(table(parse("budget cpu 1\ntask b from 2 gap 30 due 7 do 2 cpu\n")),
                         "budget cpu 1 up to 2\ntask b gap 30 down to 3, due 7 down to 4, 2 up to 3\n")

    def test_not_sure(self):
        for text in ("budget cpu 1\njob a 0 to 5 do 3 cpu\n", "budget cpu 1\ntask a from 0 gap 50 due 5 do 3 cpu\n"):
            self.assertEqual(table(parse(text)), "not sure\n")

    def test_what_check_system_refuses_is_not_sure(self):
        full = ("system", NONE, (), (("task", "t", 0, 2, 2, ((1, 0),)), ("task", "u", 0, 2, 2, ((1, 0),))))
        self.assertEqual((refusal(check_system, full), table(full)), ((0, "too full"), "not sure\n"))
        # As a system it is sure, but too great.
        task = ("task", "t", 1000, 2, 1000, ((1, 0),))
        great = ("system", NONE, (("job", "a", 0, 1000, 0, ((100, 0),)),), (task,))
        self.assertEqual((refusal(check_system, great), is_sure(great), table(great)), ((0, "too great"), True, "not sure\n"))
        self.assertNotEqual(table(put(great, 3, (put(task, 2, 0),))), "not sure\n")

    def test_nothing_handed_in_is_changed(self):
        for system in SYSTEMS[:10]:
            handed = copy.deepcopy(system)
            self.assertEqual(table(handed), table(handed))
            self.assertEqual(handed, system)


if __name__ == "__main__":
    unittest.main()
