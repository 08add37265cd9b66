"""Promises s6 and s7, and c1 for them."""
import copy
import unittest

from faultdue import text as module
from faultdue.systems import check_system
from faultdue.text import parse, shown
from tests.helpers import drawn_systems, names, put, refusal

HEAD = "budget all 2\nbudget disk 1 in all\n"
JOB = "job a 0 to 20 do 4 disk 3 all"
TASK = "task b from 2 gap 30 due 7 do 2 disk"
SYSTEM = ("system", (("all", 2, -1), ("disk", 1, 0)), (("job", "a", 0, 20, 0, ((4, 1), (3, 0))),),
          (("task", "b", 2, 30, 7, ((2, 1),)),))
EMPTY = ("system", (("all", 2, -1),), (), ())


class InterfaceTest(unittest.TestCase):
    def test_example(self):
        self.assertEqual(
            parse("budget all 2\nbudget disk 1 in all\njob a 0 to 20 do 4 disk 3 all # first\n"
                  "task b from 2 gap 30 due 7 do 2 disk\n"),
            ('system', (('all', 2, -1), ('disk', 1, 0)), (('job', 'a', 0, 20, 0, ((4, 1), (3, 0))),),
             (('task', 'b', 2, 30, 7, ((2, 1),)),)),
        )

    def test_example_of_a_refusal(self):
        self.assertEqual(refusal_of("budget all 2\njob a 9 to 8 do 4 all"), (2, "out of range"))

    def test_defined_in_their_file(self):
        for name in ("shown", "parse"):
            self.assertEqual(getattr(module, name).__module__, "faultdue.text")


def refusal_of(text):
    """Line and reason with which parse refuses the text; None if it takes it."""
    def check(value):
        check_system(parse(value))
    return refusal(check, text)


class ShownTest(unittest.TestCase):
    def test_line_by_line(self):
        budgets = (("all", 20, -1), ("disk", 0, 0), ("net", 7, 0), ("far", 1, 2), ("spare", 3, -1))
        jobs = (("job", "a", 0, 20, 0, ((4, 1),)), ("job", "ab.3", 5, 1000, 2, ((1000, 0), (3, 3), (1, 4))),
                ("job", "z.0", 1000, 1000, 1, ((1, 2),) * 6))
        tasks = (("task", "b", 2, 900, 7, ((2, 1), (3, 0))), ("task", "abcdefgh.999999", 1000, 1000, 0, ((1, 4),)))
        system = ("system", budgets, jobs, tasks)
        check_system(system)
        self.assertEqual(shown(system), (
            "budget all 20\n"
            "budget disk 0 in all\n"
            "budget net 7 in all\n"
            "budget far 1 in net\n"
            "budget spare 3\n"
            "job a 0 to 20 do 4 disk\n"
            "job ab.3 5 to 1000 done 2 do 1000 all 3 far 1 spare\n"
            "job z.0 1000 to 1000 done 1 do 1 net 1 net 1 net 1 net 1 net 1 net\n"
            "task b from 2 gap 900 due 7 do 2 disk 3 all\n"
            "task abcdefgh.999999 from 1000 gap 1000 due 0 do 1 spare\n"
        ))
        self.assertEqual(parse(shown(system)), system)

    def test_budgets_alone(self):
        self.assertEqual(shown(EMPTY), "budget all 2\n")

    def test_read_again(self):
        for system in drawn_systems(60):
            self.assertEqual(parse(shown(system)), system)

    def test_nothing_handed_in_is_changed(self):
        system = copy.deepcopy(SYSTEM)
        for _ in range(2):
            self.assertEqual(shown(system), HEAD + JOB + "\n" + TASK + "\n")
            self.assertEqual(system, SYSTEM)


class ReadTest(unittest.TestCase):
    def assert_same(self, *texts):
        for text in texts:
            self.assertEqual(parse(text), SYSTEM, text)

    def test_plain(self):
        self.assert_same(HEAD + JOB + "\n" + TASK + "\n", HEAD + JOB + "\n" + TASK, HEAD + TASK + "\n" + JOB)

    def test_spaces(self):
        self.assert_same("  budget   all  2 \nbudget disk 1   in all\n   job a  0 to 20 do 4    disk 3 all   \n " + TASK)

    def test_comments(self):
        self.assert_same(
            "# first\n" + HEAD + JOB + " # 4 disk\n" + TASK + " #\n",
            HEAD + "#job a 0 to 3 do 4 disk\n" + JOB + " #5 disk\n   # task\n" + TASK + " ##",
            HEAD + JOB + " #no # more # words\n" + TASK + "\n#",
        )

    def test_a_sign_in_a_word_begins_no_comment(self):
        self.assertEqual(refusal_of(HEAD + "job a#b 0 to 20 do 4 disk"), (3, "not a name"))
        self.assertEqual(refusal_of(HEAD + "job a 0 to 20 do 4# disk"), (3, "not a number"))
        self.assertEqual(refusal_of(HEAD + "job a 0 to 20 do 4 disk#"), (3, "unknown budget"))
        self.assertEqual(refusal_of(HEAD + "job# a 0 to 20 do 4 disk"), (3, "unknown line"))

    def test_lines_without_words(self):
        self.assert_same("\n\n" + HEAD + "\n   \n" + JOB + "\n\n  # \n" + TASK + "\n\n\n")

    def test_mixed_lines(self):
        self.assert_same("budget all 2\n" + "budget disk 1 in all\n" + TASK + "\n" + JOB)
        mixed = parse("budget a 1\njob j 0 to 5 do 2 a\nbudget b 2 in a\ntask t from 0 gap 9 due 5 do 1 b\n"
                      "budget c 3 in b\njob k 1 to 6 do 1 c 1 a\ntask u from 0 gap 8 due 5 do 1 c\n")
        self.assertEqual(mixed, (
            "system", (("a", 1, -1), ("b", 2, 0), ("c", 3, 1)),
            (("job", "j", 0, 5, 0, ((2, 0),)), ("job", "k", 1, 6, 0, ((1, 2), (1, 0)))),
            (("task", "t", 0, 9, 5, ((1, 1),)), ("task", "u", 0, 8, 5, ((1, 2),))),
        ))

    def test_budgets_alone(self):
        self.assertEqual(parse("budget all 2"), EMPTY)

    def test_done(self):
        line = "job a 0 to 20 done {} do 4 disk 3 all\n"
        for done in (0, 1, 3, 4):
            self.assertEqual(parse(HEAD + line.format(done))[2], (("job", "a", 0, 20, done, ((4, 1), (3, 0))),))

    def test_fixed_words_as_names(self):
        text = ("budget in 2\nbudget to 1 in in\nbudget do 1 in to\nbudget budget 1\nbudget done 4\n"
                "job to 0 to 9 do 1 to 1 do\njob do 0 to 9 done 1 do 1 do 1 done\njob job 0 to 9 do 2 budget\n"
                "task from from 0 gap 50 due 9 do 1 in\ntask gap from 0 gap 50 due 9 do 1 do 1 do\n")
        self.assertEqual(parse(text), (
            "system", (("in", 2, -1), ("to", 1, 0), ("do", 1, 1), ("budget", 1, -1), ("done", 4, -1)),
            (("job", "to", 0, 9, 0, ((1, 1), (1, 2))), ("job", "do", 0, 9, 1, ((1, 2), (1, 4))),
             ("job", "job", 0, 9, 0, ((2, 3),))),
            (("task", "from", 0, 50, 9, ((1, 0),)), ("task", "gap", 0, 50, 9, ((1, 2), (1, 2)))),
        ))
        self.assertEqual(shown(parse(text)), text)

    def test_a_job_may_have_the_name_of_a_budget(self):
        self.assertEqual(parse("budget a 1\njob a 0 to 9 do 1 a")[2][0][1], "a")

    def test_it_is_the_same_a_second_time(self):
        text = HEAD + JOB
        self.assertEqual(parse(text), parse(text))


class LineTest(unittest.TestCase):
    def assert_refused(self, told, *lines):
        """Each of the lines, as the third one, is refused so; with right lines behind it, too."""
        for line in lines:
            with self.subTest(line=line):
                self.assertEqual(refusal_of(HEAD + line), (3, told))
                self.assertEqual(refusal_of(HEAD + line + "\n" + JOB + "\n"), (3, told))

    def test_unknown_lines(self):
        self.assert_refused(
            "unknown line",
            "x", "jobs a 0 to 20 do 4 disk", "Job a 0 to 20 do 4 disk", "budgets x 2", "done", "2", "in", "-", "to",
            "budget", "budget x", "budget x 2 in", "budget x 2 to all", "budget x 2 all", "budget x 2 in all all",
            "budget x 2 3", "budget x in all", "budget x 2 IN all",
        )

    def test_unknown_lines_of_jobs(self):
        self.assert_refused(
            "unknown line",
            "job", "job c", "job c 0", "job c 0 to", "job c 0 to 20", "job c 0 to 20 do", "job c 0 to 20 do 4",
            "job c 0 to 20 do 4 disk 3", "job c 0 20 do 4 disk", "job c 0 to 20 4 disk", "job c 0 in 20 do 4 disk",
            "job c 0 to 20 done 1 4 disk", "job c 0 to 20 done do 4 disk", "job c 0 to 20 done 1 do",
            "job c 0 to 20 done 1 do 4", "job c 0 to 20 done 1 do 4 disk 3", "job 0 to 20 do 4 disk",
            "job c from 0 gap 20 due 5 do 4 disk", "job c 0 to 20 done 1 done 1 do 4 disk", "job c 0 to 20 do do 4 disk",
            "job c 0 to 20 DO 4 disk", "job c 0 to 20 done 1", "job c 0 to 20 done",
        )

    def test_unknown_lines_of_tasks(self):
        self.assert_refused(
            "unknown line",
            "task", "task c", "task c from 2 gap 30 due 7", "task c from 2 gap 30 due 7 do", "task c 2 gap 30 due 7 do 2 disk",
            "task c from 2 gap 30 due 7 do 2", "task c from 2 gap 30 due 7 do 2 disk 3", "task c from 2 gap 30 7 do 2 disk",
            "task c from 2 30 due 7 do 2 disk", "task c from 2 gap 30 due 7 done 1 do 2 disk",
            "task c from 2 due 7 gap 30 do 2 disk", "task c 0 to 20 do 4 disk", "task from 2 gap 30 due 7 do 2 disk",
            "task c to 2 gap 30 due 7 do 2 disk", "task c from 2 gap 30 to 7 do 2 disk", "task c from 2 to 30 due 7 do 2 disk",
        )

    def test_not_a_name(self):
        for name in ("A", "aB", "abcdefghi", "a1", "1", "a-b", "a_b", ".", "3.a"):
            self.assert_refused("not a name", f"budget {name} 2", f"job {name} 0 to 20 do 4 disk",
                                f"task {name} from 2 gap 30 due 7 do 2 disk")
        # A point and a number may stand in the name of a job or task alone.
        self.assert_refused("not a name", "budget a.3 2", "budget a.3 2 in all")
        for name in ("a.", "a.01", "a.00", "a.1234567", "a.1.2", "a.b", "abcdefghi.1", ".1"):
            self.assert_refused("not a name", f"job {name} 0 to 20 do 4 disk",
                                f"task {name} from 2 gap 30 due 7 do 2 disk")

    def test_name_twice(self):
        self.assert_refused("name twice", "budget all 1", "budget disk 1", "budget disk 1 in all")
        for line in (JOB, TASK):
            for name in ("c", "c.7"):
                there = HEAD + f"job {name} 0 to 20 do 4 disk\n"
                again = line.replace(" a ", f" {name} ", 1).replace(" b ", f" {name} ", 1)
                self.assertEqual(refusal_of(there + again), (4, "name twice"))
                there = HEAD + f"task {name} from 2 gap 30 due 7 do 2 disk\n"
                self.assertEqual(refusal_of(there + "\n" + again), (5, "name twice"))
        self.assertIsNone(refusal_of(HEAD + "job c 0 to 20 do 4 disk\njob c.7 0 to 20 do 4 disk"))

    def numbered(self, number):
        """A line for each place at which a number stands, with this word there."""
        return (f"budget x {number}", f"budget x {number} in all", f"job c {number} to 999 do 4 disk",
                f"job c 0 to {number} do 4 disk", f"job c 0 to 999 done {number} do 4 disk",
                f"job c 0 to 999 do {number} disk", f"job c 0 to 999 do 4 disk {number} all",
                f"task c from {number} gap 30 due 7 do 2 disk", f"task c from 2 gap {number} due 7 do 2 disk",
                f"task c from 2 gap 30 due {number} do 2 disk", f"task c from 2 gap 30 due 7 do {number} disk",
                f"task c from 2 gap 30 due 7 do 2 disk {number} all")

    def test_not_a_number(self):
        for number in ("00", "01", "-1", "+1", "1.0", "1_0", "x", "1x", "1234567", "0000000", "1,0", "all", "''"):
            self.assert_refused("not a number", *self.numbered(number))

    def test_six_digits_are_a_number_out_of_range(self):
        for number in ("100000", "999999", "123456", "1001"):
            self.assert_refused("out of range", *self.numbered(number))

    def test_unknown_budget(self):
        self.assert_refused(
            "unknown budget",
            "budget x 1 in y", "budget x 1 in x", "budget x 1 in ALL", "budget x 1 in 3", "budget x 1 in all.1",
            "job c 0 to 20 do 4 net", "job c 0 to 20 do 4 disk 3 net", "job c 0 to 20 do 4 DISK",
            "job c 0 to 20 do 4 disk 3 4", "task c from 2 gap 30 due 7 do 2 net", "task c from 2 gap 30 due 7 do 2 c",
        )
        self.assertEqual(refusal_of("budget x 1 in y\nbudget y 1"), (1, "unknown budget"))
        self.assertEqual(refusal_of(JOB + "\n" + HEAD), (1, "unknown budget"))
        self.assertEqual(refusal_of("budget all 2\n" + JOB + "\nbudget disk 1 in all"), (2, "unknown budget"))
        self.assertEqual(refusal_of("budget all 2\n" + TASK + "\nbudget disk 1 in all"), (2, "unknown budget"))

    def test_out_of_range(self):
        self.assert_refused(
            "out of range",
            "budget x 21", "budget x 21 in all", "job c 1001 to 1001 do 4 disk", "job c 0 to 1001 do 4 disk",
            "job c 9 to 8 do 4 disk", "job c 0 to 20 done 5 do 4 disk", "job c 0 to 20 done 5 do 4 disk 9 all",
            "job c 0 to 20 do 0 disk", "job c 0 to 20 do 1001 disk", "job c 0 to 20 do 4 disk 0 all",
            "job c 0 to 20 do 4 disk 1001 all", "job c 0 to 20 do" + " 1 all" * 7, "job c 0 to 20 do" + " 1 all" * 8,
            "task c from 1001 gap 30 due 7 do 2 disk", "task c from 2 gap 0 due 7 do 2 disk",
            "task c from 2 gap 1001 due 7 do 2 disk", "task c from 2 gap 30 due 1001 do 2 disk",
            "task c from 2 gap 30 due 7 do 0 disk", "task c from 2 gap 30 due 7 do 1001 disk",
            "task c from 2 gap 900 due 7 do" + " 1 all" * 7, "task c from 2 gap 30 due 7 do 2 disk 0 all",
        )

    def test_bounds(self):
        lines = ("budget x 0", "budget x 20", "budget x 20 in disk", "job c 0 to 0 do 1 disk",
                 "job c 1000 to 1000 do 1000 disk", "job c 0 to 1000 done 1000 do 1000 disk", "job c 8 to 8 do 4 disk",
                 "job c 0 to 20 do" + " 1 all" * 6, "task c from 0 gap 1000 due 0 do 1 disk",
                 "task c from 1000 gap 1000 due 1000 do 900 disk", "task c from 2 gap 900 due 7 do" + " 1 all" * 6)
        for line in lines:
            with self.subTest(line=line):
                self.assertIsNone(refusal_of(HEAD + line))

    def test_a_seventh_budget(self):
        six = "".join([f"budget {name} 1\n" for name in "abcdef"])
        self.assertIsNone(refusal_of(six))
        self.assertEqual(refusal_of(six + "budget g 1"), (7, "too many"))
        self.assertEqual(refusal_of(six + "budget g 1 in f\n"), (7, "too many"))

    def test_a_job_behind_the_fortieth(self):
        forty = HEAD + "".join([f"job {name} 0 to 900 do 1 all\n" for name in names(40)])
        self.assertIsNone(refusal_of(forty))
        self.assertIsNone(refusal_of(forty + "task b from 2 gap 30 due 7 do 2 disk"))
        self.assertEqual(refusal_of(forty + "job zz 0 to 900 do 1 all"), (43, "too many"))
        self.assertEqual(refusal_of(forty + TASK + "\njob zz 0 to 900 do 1 all"), (44, "too many"))

    def test_a_sixth_task(self):
        five = HEAD + "".join([f"task {name} from 0 gap 900 due 90 do 1 all\n" for name in names(5)])
        self.assertIsNone(refusal_of(five))
        self.assertIsNone(refusal_of(five + JOB))
        self.assertEqual(refusal_of(five + "task zz from 0 gap 900 due 90 do 1 all"), (8, "too many"))


class OrderTest(unittest.TestCase):
    """Which of several reasons is told."""

    def test_two_reasons_in_one_line(self):
        forty = "".join([f"job {name} 0 to 900 do 1 all\n" for name in names(40)])
        six = "".join([f"budget {name} 1\n" for name in "cdef"])
        # Each line has this reason and the ones that come behind it in the document's list.
        for text, line, told in (
            (HEAD + "job A 01 to 20 do 4 net 3", 3, "unknown line"),
            (HEAD + "budget A 01 to net", 3, "unknown line"),
            (HEAD + "job A 01 to 1001 do 4 net", 3, "not a name"),
            (HEAD + "budget A 01 in net", 3, "not a name"),
            (HEAD + forty + "job aa 01 to 1001 do 4 net", 43, "name twice"),
            (HEAD + "budget all 01 in net", 3, "name twice"),
            (HEAD + forty + "job zz 1001 to 0 do 04 net", 43, "not a number"),
            (HEAD + "budget x 021 in net", 3, "not a number"),
            (HEAD + forty + "job zz 1001 to 0 do 4 net", 43, "unknown budget"),
            (HEAD + "budget x 21 in net", 3, "unknown budget"),
            (HEAD + "task c from 2 gap 0 due 7 do 2 net", 3, "unknown budget"),
            (HEAD + forty + "job zz 1001 to 0 do 4 all", 43, "out of range"),
            (HEAD + six + "budget x 21", 7, "out of range"),
            (HEAD + forty + "job zz 0 to 9 done 2 do 1 all", 43, "out of range"),
            (HEAD + "job c 0 to 9 do" + " 01 all" * 7, 3, "not a number"),
            (HEAD + "job c 0 to 9 do" + " 1 all" * 6 + " 1 net", 3, "unknown budget"),
        ):
            with self.subTest(text=text):
                self.assertEqual(refusal_of(text), (line, told))

    def test_the_first_of_two_wrong_lines(self):
        self.assertEqual(refusal_of(HEAD + "job c 9 to 8 do 4 all\nx"), (3, "out of range"))
        self.assertEqual(refusal_of(HEAD + "x\njob A 9 to 8 do 4 all"), (3, "unknown line"))
        self.assertEqual(refusal_of("budget all 21\nbudget all 1 in y\nx"), (1, "out of range"))
        self.assertEqual(refusal_of("\n# c\nbudget A 1\n" + HEAD), (3, "not a name"))

    def test_lines_ahead_of_no_budgets(self):
        self.assertEqual(refusal_of("\nx\n"), (2, "unknown line"))
        self.assertEqual(refusal_of("\n" + JOB + "\n"), (2, "unknown budget"))

    def test_no_budgets(self):
        for text, line in (("", 1), ("\n", 2), ("\n\n", 3), ("# a", 1), ("  \n #\n x".replace("x", "#"), 3), (" ", 1)):
            self.assertEqual(refusal_of(text), (line, "no budgets"))

    def test_reasons_of_systems_come_last(self):
        full = "task c from 0 gap 5 due 5 do 5 all\n"
        self.assertEqual(refusal_of(HEAD + full), (0, "too full"))
        self.assertEqual(refusal_of(HEAD + full + "x"), (4, "unknown line"))
        half = "task c from 1000 gap 2 due 5 do 1 all\n"
        self.assertEqual(refusal_of(HEAD + half), None)
        great = "job d 0 to 900 do 1000 all 1000 all 1000 all 1000 all 1000 all 1000 all\n"
        self.assertEqual(refusal_of(HEAD + half + great), (0, "too great"))
        self.assertEqual(refusal_of(HEAD + half + great + full.replace("c", "e", 1)), (0, "too full"))


class CharactersTest(unittest.TestCase):
    NOT_ALLOWED = (1, "text not allowed")

    def test_10000_characters(self):
        text = HEAD + JOB + "\n"
        longest = text + "#" * (10000 - len(text))
        self.assertEqual(len(longest), 10000)
        self.assertIsNone(refusal_of(longest))
        self.assertEqual(refusal_of(longest + "#"), self.NOT_ALLOWED)
        self.assertEqual(refusal_of(longest + "\n"), self.NOT_ALLOWED)
        self.assertEqual(refusal_of("\n" * 10000), (10001, "no budgets"))
        self.assertEqual(refusal_of("\n" * 10001), self.NOT_ALLOWED)

    def test_characters(self):
        for letter in [chr(code) for code in list(range(32)) + [37, 127, 128, 160, 0xe9, 0x663, 0x2028, 0xff41, 0x1f600]]:
            if letter != "\n":
                with self.subTest(letter=letter):
                    self.assertEqual(refusal_of(HEAD + JOB + "\n#" + letter), self.NOT_ALLOWED)
                    self.assertEqual(refusal_of(letter + HEAD + JOB), self.NOT_ALLOWED)
        for letter in [chr(code) for code in range(32, 127) if code != 37]:
            self.assertIsNone(refusal_of(HEAD + JOB + "\n# " + letter + " x"), letter)

    def test_ahead_of_all(self):
        self.assertEqual(refusal_of("x\ny\n\t"), self.NOT_ALLOWED)
        self.assertEqual(refusal_of("%"), self.NOT_ALLOWED)
        self.assertEqual(refusal_of(HEAD + "task c from 0 gap 5 due 5 do 5 all\n# 100%"), self.NOT_ALLOWED)


if __name__ == "__main__":
    unittest.main()
