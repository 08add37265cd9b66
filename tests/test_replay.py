"""Promise k9 with k8, and c1 for it."""
import copy
import random
import unittest

from faultdue import replay as module
from faultdue.desk import Desk
from faultdue.errors import BadEntry
from faultdue.replay import replay
from faultdue.sessions import parse_session, shown_session
from tests.helpers import NO_INTEGERS, drawn_budgets, put
from tests.plain_desk import drawn_deed, outcome, seen

BUDGETS = (("all", 2, -1), ("disk", 1, 0))
JOB = ("job", "a", 0, 40, ((3, 0), (2, 1)))
TASK = ("task", "t", 0, 20, 15, ((2, 1),))
LOG = (("admit", JOB), ("admit", TASK), ("grant", 1, 2), ("run", 2), ("run", 900), ("report", True), ("arrive", "t"),
       ("run", 5), ("report", False), ("cancel", "t"), ("run", 8), ("report", False), ("run", 60), ("report", False))


def drawn_desk(seed, steps=80):
    """Budgets, and the desk that some deeds made of them."""
    draw = random.Random(seed)
    budgets = drawn_budgets(draw)
    desk = Desk(budgets)
    for _ in range(steps):
        word, *values = drawn_deed(draw, desk)
        outcome(getattr(desk, word), *values)
    return budgets, desk


class ReplayTest(unittest.TestCase):
    def test_example(self):
        log = (("admit", ("job", "a", 0, 7, ((2, 0),))), ("run", 5), ("report", True), ("run", 3))
        desk = replay((("all", 1, -1),), log)
        self.assertEqual(
            (desk.now(), desk.remaining()),
            (3, ('system', (('all', 0, -1),), (('job', 'a', 3, 7, 1, ((2, 0),)),), ())),
        )

    def test_defined_in_its_file(self):
        self.assertEqual(replay.__module__, module.__name__)

    def test_each_beginning_of_a_log(self):
        desk = Desk(BUDGETS)
        for k, (word, *values) in enumerate(LOG):
            self.assertEqual(seen(replay(BUDGETS, LOG[:k])), seen(desk))
            getattr(desk, word)(*values)
        self.assertEqual(seen(replay(BUDGETS, LOG)), seen(desk))
        self.assertEqual(desk.finished(), (("t.0", 5, 18), ("a", 10, 40)))

    def test_each_beginning_of_drawn_logs(self):
        for seed in range(40):
            budgets, desk = drawn_desk(seed)
            log = desk.log()
            for k in range(len(log), -1, -1):
                self.assertEqual(seen(replay(budgets, log[:k])), seen(desk))
                outcome(desk.undo)

    def test_it_goes_on_as_the_other_one(self):
        for seed in range(40, 60):
            budgets, desk = drawn_desk(seed, 40)
            again = replay(budgets, desk.log())
            self.assertIsInstance(again, Desk)
            draw = random.Random(seed)
            for _ in range(40):
                word, *values = drawn_deed(draw, desk)
                self.assertEqual(outcome(getattr(again, word), *values), outcome(getattr(desk, word), *values))
                self.assertEqual(seen(again), seen(desk))

    def test_through_a_text(self):
        for seed in range(60, 80):
            budgets, desk = drawn_desk(seed)
            text = shown_session(budgets, desk.log())
            self.assertEqual(parse_session(text), (budgets, desk.log()))
            self.assertEqual(seen(replay(*parse_session(text))), seen(desk))

    def test_nothing_handed_in_is_changed(self):
        for log in (LOG, LOG[:3] + ([1], ["run", 5])):
            handed = copy.deepcopy((BUDGETS, log))
            for _ in range(2):
                outcome(replay, *handed)
                self.assertEqual(handed, (BUDGETS, log))


class WrongTest(unittest.TestCase):
    def assert_wrong(self, place, *entries):
        """Each entry is wrong behind so many of the log, also if right ones stand behind it."""
        for entry in entries:
            with self.subTest(entry=entry):
                for rest in ((), (("run", 1000),), ("x", None)):
                    self.assertEqual(outcome(replay, BUDGETS, LOG[:place] + (entry,) + rest), ("BadEntry", place))

    def test_no_entries(self):
        for place in (0, 2, 3, 5, 7):
            self.assert_wrong(
                place, None, True, 0, 5, "", "run", "ab", (), [], [5], ["run", 900], ("run",), ("runs", 900), ("Run", 900),
                ("undo",), ("undo", 1), ("now",), ("log",), ("remaining",), ("run", 900, 1), ("run", 900, None), (None, 900),
                (["run"], 900), (("run",), 900), (0, 900), (True, 900), ("", 900), (900, "run"), ("report",),
                ("report", True, False), ("admit",), ("admit", put(JOB, 1, "z"), 1), ("arrive",), ("arrive", "t", 1), ("cancel",),
                ("cancel", "a", "t"), ("grant",), ("grant", 0), ("grant", 0, 1, 1), ("granted",), ("admitted",),
                ("pending", "a"), ("__init__", BUDGETS), ("_note", ("run", 5)), ("_check_free",),
            )

    def test_wrong_values(self):
        for value in NO_INTEGERS + (-1,):
            self.assert_wrong(3, ("run", value), ("grant", value, 1), ("grant", 0, value))
        self.assert_wrong(3, ("run", 1001), ("grant", 2, 1), ("grant", 0, 0), ("grant", 0, 19), ("grant", 1, 18))
        for value in (None, 0, 1, "", "True", (), [], [True], (True,), "faulty"):
            self.assert_wrong(5, ("report", value))
        for name in (None, True, 0, "", "b", "t.0", "A", [], ["t"], ("t",)):
            self.assert_wrong(3, ("arrive", name), ("cancel", name))

    def test_no_things(self):
        for thing in (None, True, 5, "job", (), [], JOB, TASK, list(put(JOB, 1, "z")), put(JOB, 1, "a.3"), put(JOB, 1, ["z"]),
                      put(JOB, 1, "z")[:4], put(JOB, 1, "z") + (0,), put(put(JOB, 1, "z"), 4, [(3, 0)]),
                      put(put(JOB, 1, "z"), 2, True), put(put(JOB, 1, "z"), 4, ((3, False),)), (["job"], "z", 0, 40, ((3, 0),))):
            self.assert_wrong(2, ("admit", thing))
        # Behind the first run at 2 it comes too late.
        self.assert_wrong(4, ("admit", put(put(JOB, 1, "z"), 2, 1)))

    def test_what_cannot_be_done(self):
        self.assert_wrong(0, ("report", True), ("report", False), ("arrive", "t"), ("cancel", "a"))
        self.assert_wrong(3, ("report", True), ("report", False), ("arrive", "a"))
        self.assert_wrong(4, ("run", 1))
        # A report is pending.
        self.assert_wrong(5, ("run", 3), ("run", 900), ("arrive", "t"), ("cancel", "a"), ("grant", 0, 1),
                          ("admit", ("job", "z", 50, 900, ((1, 0),))))
        self.assert_wrong(7, ("arrive", "t"))
        # The gap of 20 is not over.
        self.assertEqual(outcome(replay, BUDGETS, LOG[:7] + (("run", 5), ("report", False), ("arrive", "t"))), ("BadEntry", 9))

    def test_impossible_reports(self):
        budgets = (("all", 1, -1), ("disk", 1, 0))
        log = (("admit", ("job", "a", 0, 90, ((1, 1),))), ("run", 1), ("report", True), ("run", 2), ("report", True))
        self.assertEqual(outcome(replay, budgets, log), ("BadEntry", 4))
        self.assertEqual(seen(replay(budgets, log[:4] + (("report", False),)))[3], (("a", 2, 90),))

    def test_what_is_refused(self):
        self.assert_wrong(1, ("admit", ("job", "z", 0, 40, ((30, 0),))), ("admit", ("task", "z", 0, 2, 2, ((2, 0),))),
                          ("grant", 0, 18))
        great = ("task", "z", 1000, 2, 1000, ((1, 0),))
        self.assertEqual(outcome(replay, (("all", 0, -1),), (("admit", ("job", "a", 0, 1000, ((100, 0),))), ("admit", great))),
                         ("BadEntry", 1))

    def test_the_first_of_two(self):
        self.assertEqual(outcome(replay, BUDGETS, (("run", 5), ("run", 4), None)), ("BadEntry", 1))
        self.assertEqual(outcome(replay, BUDGETS, (("run", 5), None, ("run", 4))), ("BadEntry", 1))

    def test_wrong_budgets(self):
        for budgets in ((), [], None, (("all", 21, -1),), (("all", True, -1),), [("all", 1, -1)]):
            for log in ((), LOG, (None,)):
                self.assertEqual(outcome(replay, budgets, log), ("BadSystem", 0, "not budgets"))

    def test_500_and_501_entries(self):
        log = (("run", 0),) * 500
        self.assertEqual(replay(BUDGETS, log).log(), log)
        for entry in (("run", 0), ("run", 7), ("admit", JOB), None):
            self.assertEqual(outcome(replay, BUDGETS, log + (entry,)), ("BadEntry", 500))

    def test_the_error_has_its_field_alone(self):
        with self.assertRaises(BadEntry) as caught:
            replay(BUDGETS, (None,))
        self.assertEqual(vars(caught.exception), {"place": 0})


if __name__ == "__main__":
    unittest.main()
