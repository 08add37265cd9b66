"""Promise h3 with p1 and s7, and c1 for it."""
import copy
import random
import unittest

from faultdue import papertext as module
from faultdue.admission import paper_of
from faultdue.judge import judge
from faultdue.papertext import parse_paper, shown_paper
from tests.helpers import drawn_systems, refusal

SURE = "sure\nprices 0 3\nprices 2 10\n"
UNSURE = "unsure 4 17\nfaults 0 2\n"


def refusal_of(text, many=2):
    """Line and reason with which parse_paper refuses the text; None if it takes it."""
    def check(value):
        parse_paper(value, many)
    return refusal(check, text)


class InterfaceTest(unittest.TestCase):
    def test_defined_in_their_file(self):
        for name in ("shown_paper", "parse_paper"):
            self.assertEqual(getattr(module, name).__module__, "faultdue.papertext")

    def test_nothing_handed_in_is_changed(self):
        for paper in (("sure", ((1, 2), (3, 4))), ("unsure", 1, 2, (3, 4))):
            handed = copy.deepcopy(paper)
            self.assertEqual(shown_paper(handed), shown_paper(handed))
            self.assertEqual(handed, paper)

    def test_kinds(self):
        for paper in (parse_paper(SURE, 2), parse_paper(SURE, 2)[1], parse_paper(SURE, 2)[1][0], parse_paper(UNSURE, 2),
                      parse_paper(UNSURE, 2)[3]):
            self.assertIsInstance(paper, tuple)


class ShownTest(unittest.TestCase):
    def test_line_by_line(self):
        for many, paper, text in (
            (2, ("sure", ()), "sure\n"),
            (1, ("sure", ((0,),)), "sure\nprices 0\n"),
            (2, ("sure", ((0, 3), (2, 10))), SURE),
            (6, ("sure", ((1, 2, 3, 4, 5, 6), (0,) * 6, (1000,) * 6)),
             "sure\nprices 1 2 3 4 5 6\nprices 0 0 0 0 0 0\nprices 1000 1000 1000 1000 1000 1000\n"),
            (1, ("unsure", 0, 0, (0,)), "unsure 0 0\nfaults 0\n"),
            (2, ("unsure", 4, 17, (0, 2)), UNSURE),
            (6, ("unsure", 1000, 999999, (1, 2, 3, 4, 5, 20)), "unsure 1000 999999\nfaults 1 2 3 4 5 20\n"),
        ):
            with self.subTest(text=text):
                self.assertEqual(shown_paper(paper), text)
                self.assertEqual(parse_paper(text, many), paper)

    def test_numbers_of_more_than_six_digits_are_shown(self):
        self.assertEqual(shown_paper(("unsure", 0, 1000000000, (0,))), "unsure 0 1000000000\nfaults 0\n")

    def test_papers_of_systems(self):
        kinds = []
        for system in drawn_systems(80, seed=71):
            paper = paper_of(system)
            self.assertEqual(parse_paper(shown_paper(paper), len(system[1])), paper)
            self.assertIs(judge(system, parse_paper(shown_paper(paper), len(system[1]))), True)
            kinds.append(paper[0])
        self.assertGreater(min(kinds.count("sure"), kinds.count("unsure")), 15)

    def test_drawn_papers(self):
        draw = random.Random(72)
        for _ in range(100):
            many = draw.randint(1, 6)
            rows = tuple(tuple(draw.randint(0, 999999) for _ in range(many)) for _ in range(draw.randint(0, 5)))
            self.assertEqual(parse_paper(shown_paper(("sure", rows)), many), ("sure", rows))
            paper = ("unsure", draw.randint(0, 999999), draw.randint(0, 999999), tuple(range(many)))
            self.assertEqual(parse_paper(shown_paper(paper), many), paper)


class LooseTest(unittest.TestCase):
    def test_more_spaces_comments_and_empty_lines(self):
        for text in ("sure\nprices 0 3\nprices 2 10", "\n\n  sure  \n   prices   0 3 # all\n#\n\n prices 2  10 #9\n   \n",
                     "# unsure\nsure #\nprices 0 3\nprices 2 10\n# prices 4 5"):
            self.assertEqual(parse_paper(text, 2), ("sure", ((0, 3), (2, 10))))
        for text in ("unsure 4 17\nfaults 0 2", "\n # x\n unsure  4   17 #\n\n#\n   faults 0 2 # 3\n\n"):
            self.assertEqual(parse_paper(text, 2), ("unsure", 4, 17, (0, 2)))

    def test_a_paper_that_does_not_hold_is_read(self):
        self.assertEqual(parse_paper("unsure 9 3\nfaults 999999\n", 1), ("unsure", 9, 3, (999999,)))
        self.assertEqual(parse_paper("sure", 6), ("sure", ()))


class RefusedTest(unittest.TestCase):
    def test_unknown_line(self):
        for text, line in (
            ("x", 1), ("prices 0 3", 1), ("faults 0 2", 1), ("0 3", 1), ("Sure", 1), ("surely", 1), ("in", 1), ("-", 1),
            ("sure#", 1), ("# a\nnot sure", 2), (SURE + "x", 4), (SURE + "sure", 4), (SURE + "unsure 4 17", 4),
            (SURE + "faults 0 2", 4), (SURE + "0 3", 4), ("sure\nfaults 0 2", 2), ("sure\nsure", 2), ("sure\n\nx\n", 3),
            (UNSURE + "faults 0 2", 3), (UNSURE + "prices 0 2", 3), (UNSURE + "sure", 3), (UNSURE + "\nunsure 4 17", 4),
            (UNSURE + "x", 3), ("unsure 4 17\nprices 0 2\nfaults 0 2", 2), ("unsure 4 17\nunsure 4 17", 2),
            ("unsure 4 17\nsure", 2), ("unsure 4 17\n17", 2), ("faults 0 2\nunsure 4 17\n", 1), ("prices 0 3\nsure\n", 1),
        ):
            with self.subTest(text=text):
                self.assertEqual(refusal_of(text), (line, "unknown line"))

    def test_wrong_number_of_words(self):
        for text, line in (
            ("sure 0", 1), ("sure 0 3", 1), ("sure sure", 1), ("sure\nprices", 2), ("sure\nprices 0", 2),
            ("sure\nprices 0 3 4", 2), (SURE + "prices 1", 4), ("unsure", 1), ("unsure 4", 1), ("unsure 4 17 0", 1),
            ("unsure 4 17 faults 0 2", 1), ("unsure 4 17\nfaults", 2), ("unsure 4 17\nfaults 0", 2),
            ("unsure 4 17\nfaults 0 2 0", 2),
        ):
            with self.subTest(text=text):
                self.assertEqual(refusal_of(text), (line, "wrong number of words"))

    def test_as_many_numbers_as_budgets(self):
        for many in range(1, 7):
            for numbers in range(1, 8):
                words = " 1" * numbers
                told = None if numbers == many else (2, "wrong number of words")
                self.assertEqual(refusal_of(f"sure\nprices{words}", many), told)
                self.assertEqual(refusal_of(f"unsure 1 2\nfaults{words}", many), told)

    def test_not_a_number(self):
        for number in ("00", "01", "-1", "+1", "1.0", "1_0", "x", "1x", "1234567", "1000000", "0000000", "all", "''"):
            for text, line in ((f"sure\nprices 0 {number}", 2), (f"sure\nprices {number} 3\n", 2),
                               (SURE + f"\nprices 1 {number}\n", 5), (f"unsure {number} 17", 1), (f"unsure 4 {number}", 1),
                               (f"unsure 4 17\nfaults 0 {number}", 2), (f"unsure 4 17\n\nfaults {number} 2", 3)):
                with self.subTest(text=text):
                    self.assertEqual(refusal_of(text), (line, "not a number"))
        for number in ("0", "1", "10", "999999", "100000"):
            self.assertIsNone(refusal_of(f"sure\nprices {number} {number}"))
            self.assertIsNone(refusal_of(f"unsure {number} {number}\nfaults {number} {number}"))

    def test_paper_expected(self):
        for text, line in (("", 1), ("\n", 2), ("\n\n", 3), (" ", 1), ("# sure", 1), ("# sure\n#\n", 3)):
            self.assertEqual(refusal_of(text), (line, "paper expected"), text)

    def test_faults_expected(self):
        for text, line in (("unsure 4 17", 1), ("unsure 4 17\n", 2), ("\nunsure 4 17\n\n# faults 0 2\n", 5),
                           ("unsure 4 17 # faults 0 2", 1)):
            self.assertEqual(refusal_of(text), (line, "faults expected"), text)

    def test_two_reasons_hold(self):
        for text, line, told in (
            ("x 01", 1, "unknown line"), ("prices 01", 1, "unknown line"), ("sure\nfaults 01", 2, "unknown line"),
            ("sure 01", 1, "wrong number of words"), ("unsure 01", 1, "wrong number of words"),
            ("sure\nprices 01", 2, "wrong number of words"), ("unsure 1 2\nfaults x y z", 2, "wrong number of words"),
            ("sure\nprices 01 1\nprices 1", 2, "not a number"), ("sure\nprices 1\nprices 01 1", 2, "wrong number of words"),
            ("sure 1\nx", 1, "wrong number of words"), ("unsure 1 01\n", 1, "not a number"),
            ("unsure 1 2\nx", 2, "unknown line"), ("unsure 1 2\nfaults 0 2\nx 01", 3, "unknown line"),
        ):
            with self.subTest(text=text):
                self.assertEqual(refusal_of(text), (line, told))


class CharactersTest(unittest.TestCase):
    NOT_ALLOWED = (1, "text not allowed")

    def test_10000_characters(self):
        longest = SURE + "#" * (10000 - len(SURE))
        self.assertEqual(parse_paper(longest, 2), ("sure", ((0, 3), (2, 10))))
        self.assertEqual(refusal_of(longest + "#"), self.NOT_ALLOWED)
        self.assertEqual(refusal_of("\n" * 10000), (10001, "paper expected"))
        self.assertEqual(refusal_of("\n" * 10001), self.NOT_ALLOWED)
        self.assertEqual(refusal_of("x\n" * 5001), self.NOT_ALLOWED)

    def test_characters(self):
        for letter in [chr(code) for code in list(range(32)) + [37, 127, 128, 160, 0x663, 0x2028, 0xff41, 0x1f600]]:
            if letter != "\n":
                self.assertEqual(refusal_of(SURE + "#" + letter), self.NOT_ALLOWED)
                self.assertEqual(refusal_of("x" + letter), self.NOT_ALLOWED)
        for letter in [chr(code) for code in range(32, 127) if code != 37]:
            self.assertIsNone(refusal_of(UNSURE + "# " + letter))


if __name__ == "__main__":
    unittest.main()
