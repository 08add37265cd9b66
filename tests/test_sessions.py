"""Promise h1 with s6 and s7, and c1 for them."""
import copy
import random
import unittest

from faultdue import sessions as module
from faultdue.sessions import parse_session, shown_session
from tests.helpers import drawn_job, drawn_task, names, refusal, some_budgets

BUDGETS = (("all", 20, -1), ("disk", 0, 0), ("net", 7, 0), ("far", 1, 2), ("spare", 3, -1))
JOB = ("job", "a", 0, 20, ((4, 1), (3, 0)))
TASK = ("task", "b", 2, 30, 7, ((2, 1),))
HEAD = "budget all 2\nbudget disk 1 in all\n"
HEADS = (("all", 2, -1), ("disk", 1, 0))
ADMIT = "admit job a 0 to 20 do 4 disk 3 all"
RIGHT = (ADMIT, "admit job a 0 to 20 done 0 do 4 disk 3 all", "admit task b from 2 gap 30 due 7 do 2 disk", "arrive b",
         "cancel b.0", "grant disk 3", "run 10", "report faulty", "report good")
LOG = (("admit", JOB), ("admit", JOB), ("admit", TASK), ("arrive", "b"), ("cancel", "b.0"), ("grant", 1, 3), ("run", 10),
       ("report", True), ("report", False))


def refusal_of(text):
    """Line and reason with which parse_session refuses the text; None if it takes it."""
    def check(value):
        parse_session(value)
    return refusal(check, text)


def drawn_log(draw, many):
    """A log of right shapes, whether it can be replayed or not."""
    found = []
    for _ in range(draw.randint(0, 12)):
        word, name, _, *rest = draw.choice((drawn_job, drawn_task))(draw, draw.choice(("a", "to", "do.3", "task")), many)
        rest = (rest[0],) + tuple(rest[2:]) if word == "job" else tuple(rest)
        found.append(draw.choice((
            ("admit", (word, name, draw.randint(0, rest[0] if word == "job" else 9)) + rest), ("arrive", name),
            ("cancel", name), ("grant", draw.randrange(many), draw.randint(1, 20)), ("run", draw.randint(0, 1000)),
            ("report", draw.choice((True, False))),
        )))
    return tuple(found)


class InterfaceTest(unittest.TestCase):
    def test_example(self):
        self.assertEqual(
            shown_session((("all", 1, -1),), (("admit", ("job", "a", 0, 7, ((2, 0),))), ("run", 10))),
            'budget all 1\nadmit job a 0 to 7 do 2 all\nrun 10\n',
        )

    def test_defined_in_their_file(self):
        for name in ("shown_session", "parse_session"):
            self.assertEqual(getattr(module, name).__module__, "faultdue.sessions")

    def test_nothing_handed_in_is_changed(self):
        handed = copy.deepcopy((BUDGETS, LOG))
        text = shown_session(*handed)
        self.assertEqual(handed, (BUDGETS, LOG))
        self.assertEqual(parse_session(text), parse_session(text))


class ShownTest(unittest.TestCase):
    def test_line_by_line(self):
        log = (
            ("admit", JOB), ("admit", ("job", "ab.3", 5, 1000, ((1000, 0), (3, 3), (1, 4)))),
            ("admit", ("job", "z", 1000, 1000, ((1, 2),) * 6)), ("admit", TASK),
            ("admit", ("task", "abcdefgh", 1000, 1000, 0, ((1, 4), (20, 0)))), ("arrive", "b"), ("cancel", "b.0"),
            ("cancel", "b.12"), ("cancel", "ab"), ("grant", 0, 1), ("grant", 3, 20), ("run", 0), ("run", 1000),
            ("report", True), ("report", False),
        )
        text = (
            "budget all 20\n"
            "budget disk 0 in all\n"
            "budget net 7 in all\n"
            "budget far 1 in net\n"
            "budget spare 3\n"
            "admit job a 0 to 20 do 4 disk 3 all\n"
            "admit job ab.3 5 to 1000 do 1000 all 3 far 1 spare\n"
            "admit job z 1000 to 1000 do 1 net 1 net 1 net 1 net 1 net 1 net\n"
            "admit task b from 2 gap 30 due 7 do 2 disk\n"
            "admit task abcdefgh from 1000 gap 1000 due 0 do 1 spare 20 all\n"
            "arrive b\n"
            "cancel b.0\n"
            "cancel b.12\n"
            "cancel ab\n"
            "grant all 1\n"
            "grant far 20\n"
            "run 0\n"
            "run 1000\n"
            "report faulty\n"
            "report good\n"
        )
        self.assertEqual(shown_session(BUDGETS, log), text)
        self.assertEqual(parse_session(text), (BUDGETS, log))

    def test_without_entries(self):
        self.assertEqual(shown_session(HEADS, ()), HEAD)
        self.assertEqual(parse_session(HEAD), (HEADS, ()))

    def test_drawn_logs(self):
        draw = random.Random(61)
        for budgets in some_budgets(80):
            log = drawn_log(draw, len(budgets))
            self.assertEqual(parse_session(shown_session(budgets, log)), (budgets, log))


class LooseTest(unittest.TestCase):
    """Texts that are read, and are not written so."""

    def test_each_right_line(self):
        for line, entry in zip(RIGHT, LOG):
            for text in (line, line + "\n", "  " + line.replace(" ", "   ") + "  \n\n", line + " # report good\n",
                         line + " #run 5", "# x\n\n   \n" + line, line + "\n#"):
                with self.subTest(text=text):
                    self.assertEqual(parse_session(HEAD + text), (HEADS, (entry,)))

    def test_all_together(self):
        text = "# budgets\n\n budget  all 2 #\n   budget disk 1 in all\n#\n" + "\n # - \n".join(RIGHT)
        self.assertEqual(parse_session(text), (HEADS, LOG))

    def test_a_sharp_within_a_word(self):
        self.assertEqual(refusal_of(HEAD + "run 1#"), (3, "not a number"))
        self.assertEqual(refusal_of(HEAD + "arrive b#"), (3, "not a name"))
        self.assertEqual(refusal_of(HEAD + "report good#"), (3, "unknown line"))

    def test_fixed_words_as_names(self):
        text = ("budget run 2\nbudget in 1 in run\nbudget admit 1 in in\nbudget budget 1\nadmit job job 0 to 9 do 1 run\n"
                "admit job to 0 to 9 do 1 in 2 admit\nadmit task task from 0 gap 50 due 9 do 1 budget\n"
                "admit task from from 0 gap 50 due 9 do 1 in\narrive task\narrive arrive\ncancel cancel\ncancel faulty\n"
                "grant run 1\ngrant in 2\ngrant budget 3\nrun 5\nreport good\n")
        budgets, log = parse_session(text)
        self.assertEqual(budgets, (("run", 2, -1), ("in", 1, 0), ("admit", 1, 1), ("budget", 1, -1)))
        self.assertEqual(log, (
            ("admit", ("job", "job", 0, 9, ((1, 0),))), ("admit", ("job", "to", 0, 9, ((1, 1), (2, 2)))),
            ("admit", ("task", "task", 0, 50, 9, ((1, 3),))), ("admit", ("task", "from", 0, 50, 9, ((1, 1),))),
            ("arrive", "task"), ("arrive", "arrive"), ("cancel", "cancel"), ("cancel", "faulty"), ("grant", 0, 1),
            ("grant", 1, 2), ("grant", 3, 3), ("run", 5), ("report", False),
        ))
        self.assertEqual(shown_session(budgets, log), text)

    def test_more_and_until_are_any_numbers(self):
        for number in (0, 1, 20, 21, 1000, 1001, 100000, 999999):
            self.assertEqual(parse_session(f"{HEAD}run {number}\ngrant all {number}"),
                             (HEADS, (("run", number), ("grant", 0, number))))

    def test_the_same_name_again_and_again(self):
        text = HEAD + (ADMIT + "\n") * 60 + "admit task a from 2 gap 30 due 7 do 2 disk\n" * 7
        self.assertEqual(parse_session(text), (HEADS, (("admit", JOB),) * 60 + (("admit", ("task", "a") + TASK[2:]),) * 7))

    def test_more_than_40_jobs_and_5_tasks(self):
        lines = [f"admit job {name} 0 to 20 do 4 disk\n" for name in names(45)]
        lines += [f"admit task {name} from 0 gap 5 due 20 do 4 disk\n" for name in names(9)]
        self.assertEqual(len(parse_session(HEAD + "".join(lines))[1]), 54)

    def test_whether_it_can_be_replayed_is_not_looked_at(self):
        text = HEAD + "report good\nrun 50\nrun 40\ncancel nobody\narrive nobody.3\nadmit job a.3 0 to 1 do 1000 all\n"
        self.assertEqual(parse_session(text)[1][-1], ("admit", ("job", "a.3", 0, 1, ((1000, 0),))))

    def test_kinds(self):
        budgets, log = parse_session(HEAD + ADMIT)
        for row in (budgets, log) + budgets + log + (log[0][1], log[0][1][4]) + log[0][1][4]:
            self.assertIsInstance(row, tuple)
        for line, told in (("report faulty", True), ("report good", False)):
            self.assertIs(parse_session(HEAD + line)[1][0][1], told)


class LineTest(unittest.TestCase):
    def assert_refused(self, told, *lines):
        """Each of the lines is refused so, as the first entry and as a later one; with right lines behind it, too."""
        for line in lines:
            with self.subTest(line=line):
                self.assertEqual(refusal_of(HEAD + line), (3, told))
                self.assertEqual(refusal_of(HEAD + line + "\n" + ADMIT + "\n"), (3, told))
                self.assertEqual(refusal_of(HEAD + "run 1\n\n" + line + "\nx\n"), (5, told))

    def test_unknown_lines(self):
        self.assert_refused(
            "unknown line",
            "x", "Run 5", "runs 5", "job a 0 to 20 do 4 disk", "task b from 2 gap 30 due 7 do 2 disk", "3", "-", "admits",
            "admit", "admit a", "admit budget x 3", "admit admit job a 0 to 20 do 4 disk", "admit a 0 to 20 do 4 disk",
            "admit job", "admit job a", "admit job a 0 to 20", "admit job a 0 to 20 do", "admit job a 0 to 20 do 4",
            "admit job a 0 to 20 do 4 disk 3", "admit job a 0 20 do 4 disk", "admit job a 0 to 20 done do 4 disk",
            "admit jobs a 0 to 20 do 4 disk", "admit job a 0 to 20 done 1 4 disk", "admit arrive b", "admit run 5",
            "admit task b from 2 gap 30 due 7", "admit task b from 2 gap 30 due 7 do", "admit task b 2 gap 30 due 7 do 2 disk",
            "admit task b from 2 gap 30 due 7 done 0 do 2 disk", "admit task b from 2 gap 30 due 7 do 2",
            "arrive", "arrive b c", "arrive task b", "cancel", "cancel b c", "grant", "grant disk", "grant disk 3 4",
            "grant disk 3 in all", "run", "run 5 6", "run to 5", "report", "report bad", "report Good", "report good good",
            "report faulty all", "report 1", "report True", "undo",
            "x good", "reports faulty", "grant good", "undo faulty", "good", "faulty",
        )

    def test_not_a_name(self):
        for name in ("A", "aB", "abcdefghi", "a1", "1", "a-b", "a_b", ".", "3.a", "a.", "a.01", "a.00", "a.1234567",
                     "a.1.2", "a.b", "abcdefghi.1", ".1"):
            self.assert_refused("not a name", f"admit job {name} 0 to 20 do 4 disk", f"arrive {name}", f"cancel {name}",
                                f"admit task {name} from 2 gap 30 due 7 do 2 disk")

    def test_not_a_name_of_a_budget(self):
        for name in ("A", "a.3", "abcdefghi", "a1"):
            self.assertEqual(refusal_of(HEAD + f"budget {name} 3"), (3, "not a name"))
            self.assertEqual(refusal_of(HEAD + f"budget {name} 3 in disk\nrun 5"), (3, "not a name"))

    def test_names_with_a_point_and_a_number(self):
        for name in ("a.0", "a.7", "abcdefgh.999999"):
            text = f"{HEAD}arrive {name}\ncancel {name}\nadmit job {name} 0 to 9 do 1 all"
            self.assertEqual(parse_session(text)[1], (
                ("arrive", name), ("cancel", name), ("admit", ("job", name, 0, 9, ((1, 0),))),
            ))

    def test_name_twice(self):
        self.assertEqual(refusal_of(HEAD + "budget all 3"), (3, "name twice"))
        self.assertEqual(refusal_of(HEAD + "budget disk 3 in all\nx"), (3, "name twice"))

    def test_not_a_number(self):
        for number in ("00", "01", "007", "-1", "+1", "1.0", "1_0", "x", "1x", "1234567", "1000000", "0000000", "all"):
            self.assert_refused("not a number", f"run {number}", f"grant disk {number}",
                                f"admit job a {number} to 20 do 4 disk", f"admit job a 0 to {number} do 4 disk",
                                f"admit job a 0 to 20 done {number} do 4 disk", f"admit job a 0 to 20 do {number} disk",
                                f"admit task b from {number} gap 30 due 7 do 2 disk",
                                f"admit task b from 2 gap {number} due 7 do 2 disk",
                                f"admit task b from 2 gap 30 due {number} do 2 disk",
                                f"admit task b from 2 gap 30 due 7 do 2 disk {number} all")
            self.assertEqual(refusal_of(HEAD + f"budget x {number}"), (3, "not a number"))

    def test_unknown_budget(self):
        self.assert_refused(
            "unknown budget",
            "grant net 3", "grant DISK 3", "grant a.3 3", "grant 3 3", "grant abcdefghi 3", "grant a 0",
            "admit job a 0 to 20 do 4 net", "admit job a 0 to 20 do 4 disk 3 4", "admit task b from 2 gap 30 due 7 do 2 DISK",
        )
        self.assertEqual(refusal_of(HEAD + "budget x 3 in y"), (3, "unknown budget"))
        self.assertEqual(refusal_of(HEAD + "budget x 3 in x"), (3, "unknown budget"))
        # A budget that stands only behind is not known yet.
        self.assertEqual(refusal_of("grant all 1\n" + HEAD), (1, "unknown budget"))
        self.assertEqual(refusal_of("budget all 1\n" + ADMIT + "\nbudget disk 1"), (2, "unknown budget"))

    def test_out_of_range(self):
        self.assert_refused(
            "out of range",
            "admit job a 1001 to 1001 do 4 disk", "admit job a 0 to 1001 do 4 disk", "admit job a 9 to 8 do 4 disk",
            "admit job a 0 to 20 do 0 disk", "admit job a 0 to 20 do 1001 disk", "admit job a 0 to 20 do" + " 1 all" * 7,
            "admit task b from 1001 gap 30 due 7 do 2 disk", "admit task b from 2 gap 0 due 7 do 2 disk",
            "admit task b from 2 gap 1001 due 7 do 2 disk", "admit task b from 2 gap 30 due 1001 do 2 disk",
            "admit task b from 2 gap 30 due 7 do 2 disk 0 all", "admit task b from 2 gap 30 due 7 do" + " 1 all" * 7,
        )
        self.assertEqual(refusal_of(HEAD + "budget x 21"), (3, "out of range"))
        self.assertEqual(refusal_of(HEAD + "budget x 21 in disk"), (3, "out of range"))

    def test_done_above_0(self):
        for done in (1, 3, 4, 5, 999999):
            self.assert_refused("out of range", f"admit job a 0 to 20 done {done} do 4 disk 3 all")
        self.assertEqual(parse_session(HEAD + "admit job a 0 to 20 done 0 do 4 disk 3 all"), (HEADS, (("admit", JOB),)))

    def test_a_seventh_budget(self):
        six = "".join(f"budget {name} 1\n" for name in "abcdef")
        self.assertIsNone(refusal_of(six))
        self.assertEqual(refusal_of(six + "budget g 1"), (7, "too many"))
        self.assertEqual(refusal_of(six + "run 5\nbudget g 1"), (8, "budget behind an entry"))

    def test_budget_behind_an_entry(self):
        for line in RIGHT:
            for wrong in ("budget x 3", "budget x 3 in all", "budget all 3", "budget", "budget A", "budget x 021",
                          "budget x 21 in y", "budget admit job a", "  budget # x"):
                with self.subTest(line=line, wrong=wrong):
                    self.assertEqual(refusal_of(HEAD + line + "\n" + wrong), (4, "budget behind an entry"))
        self.assertEqual(refusal_of(HEAD + "run 1\n\n#\nbudget x 3\nx"), (6, "budget behind an entry"))
        self.assertEqual(refusal_of(HEAD + "run 1\nbudgets"), (4, "unknown line"))

    def test_an_entry_beyond_the_500th(self):
        for line in RIGHT:
            head = "run 1\n" * 499
            self.assertEqual(len(parse_session(HEAD + head + line)[1]), 500)
            self.assertEqual(refusal_of(HEAD + head + "run 1\n" + line), (503, "too many"))
            self.assertEqual(refusal_of(HEAD + head + "run 1\n\n# x\n" + line), (505, "too many"))
        self.assertEqual(refusal_of(HEAD + "run 1\n" * 500 + "budget x 1"), (503, "budget behind an entry"))


class OrderTest(unittest.TestCase):
    """Which of several reasons is told."""

    def test_two_reasons_in_one_line(self):
        full = "run 1\n" * 500
        for text, line, told in (
            (full + "admit job A 01 to 20 do 4 net 3", 503, "unknown line"),
            (full + "arrive A b", 503, "unknown line"),
            (full + "grant A 01 2", 503, "unknown line"),
            (full + "run 01 2", 503, "unknown line"),
            (full + "admit job A 01 to 1001 do 4 net", 503, "not a name"),
            (full + "cancel A", 503, "not a name"),
            (full + "admit job a 1001 to 0 do 04 net", 503, "not a number"),
            (full + "grant A 01", 503, "not a number"),
            (full + "run 01", 503, "not a number"),
            (full + "admit job a 1001 to 0 done 3 do 4 net", 503, "unknown budget"),
            (full + "grant net 999999", 503, "unknown budget"),
            (full + "admit job a 1001 to 0 do 4 all", 503, "out of range"),
            (full + "admit job a 0 to 9 done 1 do 4 all", 503, "out of range"),
            ("admit job A 0 to 9 done 1 do 4 all", 3, "not a name"),
            ("admit job a 0 to 9 done 01 do 4 all", 3, "not a number"),
            ("admit job a 0 to 9 done 1 do 4 net", 3, "unknown budget"),
            ("budget all 01 in net", 3, "name twice"),
            ("budget x 021 in net", 3, "not a number"),
            ("budget x 21 in net", 3, "unknown budget"),
        ):
            with self.subTest(text=text[-40:]):
                self.assertEqual(refusal_of(HEAD + text), (line, told))

    def test_the_first_of_two_wrong_lines(self):
        self.assertEqual(refusal_of(HEAD + "run 01\nx"), (3, "not a number"))
        self.assertEqual(refusal_of(HEAD + "x\nrun 01"), (3, "unknown line"))
        self.assertEqual(refusal_of(HEAD + "run 1\nbudget x 3\nrun 01"), (4, "budget behind an entry"))
        self.assertEqual(refusal_of(HEAD + "run 1\ncancel A\nbudget x 3"), (4, "not a name"))
        self.assertEqual(refusal_of("budget all 21\nbudget all 1 in y\nx"), (1, "out of range"))

    def test_no_budgets(self):
        for text, line in (("", 1), ("\n", 2), ("\n\n", 3), ("# a", 1), ("  \n #\n #", 3), (" ", 1), ("run 5", 1),
                           ("run 5\n", 2), ("report good\n\ncancel a\n# x\n", 5)):
            self.assertEqual(refusal_of(text), (line, "no budgets"), text)
        # A wrong line comes ahead of it, and a budget behind an entry is none.
        self.assertEqual(refusal_of("run 5\nx\n"), (2, "unknown line"))
        self.assertEqual(refusal_of("run 5\nbudget all 3\n"), (2, "budget behind an entry"))


class CharactersTest(unittest.TestCase):
    NOT_ALLOWED = (1, "text not allowed")

    def test_100000_characters(self):
        text = HEAD + ADMIT + "\n"
        longest = text + "#" * (100000 - len(text))
        self.assertEqual(len(longest), 100000)
        self.assertEqual(parse_session(longest), (HEADS, (("admit", JOB),)))
        self.assertEqual(refusal_of(longest + "#"), self.NOT_ALLOWED)
        self.assertEqual(refusal_of(longest + "\n"), self.NOT_ALLOWED)
        self.assertEqual(refusal_of("\n" * 100000), (100001, "no budgets"))
        self.assertEqual(refusal_of("\n" * 100001), self.NOT_ALLOWED)

    def test_the_longest_log_fits(self):
        line = "admit task abcdefgh from 1000 gap 1000 due 1000 do" + " 1000 all" * 6 + "\n"
        self.assertEqual(len(parse_session(HEAD + line * 500)[1]), 500)

    def test_characters(self):
        for letter in [chr(code) for code in list(range(32)) + [37, 127, 128, 160, 0xe9, 0x663, 0x2028, 0xff41, 0x1f600]]:
            if letter != "\n":
                with self.subTest(letter=letter):
                    self.assertEqual(refusal_of(HEAD + ADMIT + "\n#" + letter), self.NOT_ALLOWED)
                    self.assertEqual(refusal_of(letter + HEAD + ADMIT), self.NOT_ALLOWED)
        for letter in [chr(code) for code in range(32, 127) if code != 37]:
            self.assertIsNone(refusal_of(HEAD + ADMIT + "\n# " + letter + " x"), letter)

    def test_ahead_of_all(self):
        self.assertEqual(refusal_of("x\ny\n\t"), self.NOT_ALLOWED)
        self.assertEqual(refusal_of("%"), self.NOT_ALLOWED)
        self.assertEqual(refusal_of("run 1\nbudget x 1\n" + " " * 100000), self.NOT_ALLOWED)


if __name__ == "__main__":
    unittest.main()
