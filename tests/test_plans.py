"""Promises e1 and e2, and c1 for them."""
import copy
import random
import unittest

from faultdue import plans as module
from faultdue.errors import BadPlan
from faultdue.plans import check_arrivals, check_plan, faults_of, items_of, needs
from faultdue.text import parse
from tests.helpers import NO_INTEGERS, drawn_arrivals, drawn_plan, drawn_systems, plain_items, put

SYSTEM = parse("budget all 3\nbudget disk 2 in all\njob a 0 to 20 done 1 do 4 disk 3 all\njob b 5 to 9 do 2 all\n"
               "task c from 3 gap 10 due 7 do 2 all 1 disk\ntask d from 0 gap 50 due 0 do 1 disk\n"
               "task e from 1000 gap 60 due 9 do 3 all\n")
ARRIVALS = ((3, 13, 30), (0,), ())
ONE = parse("budget all 1\njob a 0 to 20 do 4 all\n")
DEEP = ()
for _ in range(50000):
    DEEP = (DEEP,)


def place_of(check, *handed):
    """The place with which a check refuses what it is handed; None if it lets it."""
    try:
        told = check(*handed)
    except BadPlan as error:
        return error.place
    if told is not None:
        raise AssertionError(f"a check gave back {told!r}")
    return None


class InterfaceTest(unittest.TestCase):
    def test_defined_in_their_file(self):
        for name in ("check_arrivals", "check_plan", "items_of", "needs", "faults_of"):
            self.assertEqual(getattr(module, name).__module__, "faultdue.plans")

    def test_kinds(self):
        self.assertIsInstance(items_of(SYSTEM, ARRIVALS), list)
        self.assertIsInstance(items_of(SYSTEM, ARRIVALS)[0], tuple)
        self.assertIsInstance(needs(SYSTEM, ARRIVALS, ()), list)
        self.assertIsInstance(faults_of(SYSTEM, ARRIVALS, ()), tuple)

    def test_nothing_handed_in_is_changed(self):
        for plan in (((0, 0, 2), (3, 1, 1)), [(0, 0, 2)], ((0, 1, 1), [0, 0, 1])):
            for arrivals in (ARRIVALS, [(3,), (0,), ()], ([3], (0,), ())):
                handed = copy.deepcopy((SYSTEM, arrivals, plan))
                for _ in range(2):
                    place_of(check_arrivals, handed[0], handed[1])
                    place_of(check_plan, handed[0], ARRIVALS, handed[2])
                    self.assertEqual(handed, (SYSTEM, arrivals, plan))
        handed = copy.deepcopy((SYSTEM, ARRIVALS, ((0, 0, 2), (3, 1, 1))))
        for _ in range(2):
            items_of(*handed[:2]), needs(*handed), faults_of(*handed)
            self.assertEqual(handed, (SYSTEM, ARRIVALS, ((0, 0, 2), (3, 1, 1))))


class ArrivalsTest(unittest.TestCase):
    """e1."""

    def assert_lets(self, *rows):
        for arrivals in rows:
            self.assertIsNone(place_of(check_arrivals, SYSTEM, arrivals), arrivals)

    def assert_refuses(self, place, *rows):
        for arrivals in rows:
            with self.subTest(arrivals=arrivals if arrivals is not DEEP else "deep"):
                self.assertEqual(place_of(check_arrivals, SYSTEM, arrivals), place)

    def test_right(self):
        self.assert_lets(ARRIVALS, ((), (), ()), ((3,), (), ()), ((), (0,), (1000,)), ((3, 13, 23, 33), (), ()),
                         ((4, 14), (1, 51, 101), (1001, 1061)), ((900000, 1000000), (1000000,), (1000000,)),
                         ((3, 999990, 1000000), (), ()))
        self.assertIsNone(place_of(check_arrivals, ONE, ()))

    def test_drawn_arrivals_are_right(self):
        draw = random.Random(9)
        for system in drawn_systems(60):
            self.assertIsNone(place_of(check_arrivals, system, drawn_arrivals(draw, system)))

    def test_wrong_releases(self):
        wrong = ((2,), (3, 12), (3, 13, 22), (3, 3), (13, 3), (3, 13, 13), (-1,), (1000001,), (3, 1000001), (3, 13, 5))
        for row in wrong:
            self.assert_refuses(0, (row, (), ()), (row, (0,), (1000,)), (row, (0, 1), (5,)))
        self.assert_refuses(1, ((3,), (-1,), ()), ((), (0, 49), ()), ((3,), (0, 50, 99), (5,)), ((), (1000001,), ()))
        self.assert_refuses(2, ((3,), (0,), (999,)), ((3,), (0,), (1000, 1059)), ((3,), (0,), (0,)),
                            ((3,), (0,), (1000001,)))

    def test_no_integers(self):
        for release in NO_INTEGERS:
            self.assert_refuses(0, ((release,), (0,), ()), ((3, release), (0,), ()))
            self.assert_refuses(1, ((3,), (release,), ()), ((), (0, release), ()))
        # True and False would do as integers.
        self.assert_refuses(1, ((), (False,), ()), ((), (True,), ()), ((), (True, 51), ()))

    def test_other_things_in_place_of_an_item(self):
        for row in ([3], [], None, 3, True, "", "a", 0):
            self.assert_refuses(0, (row, (0,), ()), (row, (-1,), ()))
            self.assert_refuses(1, ((3,), row, ()))
            self.assert_refuses(2, ((3,), (0,), row))
        self.assert_refuses(1, ((3,), DEEP, ()), ((3,), (DEEP,), ()))

    def test_other_things_in_place_of_the_whole(self):
        self.assert_refuses(0, None, (), ((3,),), ((3,), (0,)), ((3,), (0,), (), ()), [(3,), (0,), ()], 3, True, "abc",
                            "", [], DEEP, ((3,), (-1,)))
        self.assertEqual(place_of(check_arrivals, ONE, ((),)), 0)
        self.assertEqual(place_of(check_arrivals, ONE, []), 0)
        self.assertEqual(place_of(check_arrivals, ONE, None), 0)

    def test_items(self):
        self.assertEqual(items_of(SYSTEM, ARRIVALS), [
            (0, 20, 1, ((4, 1), (3, 0))), (5, 9, 0, ((2, 0),)),
            (3, 10, 0, ((2, 0), (1, 1))), (13, 20, 0, ((2, 0), (1, 1))), (30, 37, 0, ((2, 0), (1, 1))),
            (0, 0, 0, ((1, 1),)),
        ])
        self.assertEqual(items_of(SYSTEM, ((), (), (1000000,)))[2:], [(1000000, 1000009, 0, ((3, 0),))])
        self.assertEqual(items_of(ONE, ()), [(0, 20, 0, ((4, 0),))])
        self.assertEqual(items_of(parse("budget all 1"), ()), [])

    def test_items_of_drawn_systems(self):
        draw = random.Random(10)
        for system in drawn_systems(60):
            arrivals = drawn_arrivals(draw, system)
            self.assertEqual(items_of(system, arrivals), plain_items(system, arrivals))


class PlanTest(unittest.TestCase):
    """e2."""

    def assert_lets(self, *plans):
        for plan in plans:
            self.assertIsNone(place_of(check_plan, SYSTEM, ARRIVALS, plan), plan)

    def assert_refuses(self, place, *plans):
        for plan in plans:
            with self.subTest(plan=plan if plan is not DEEP else "deep"):
                self.assertEqual(place_of(check_plan, SYSTEM, ARRIVALS, plan), place)

    def test_right(self):
        self.assert_lets((), ((0, 0, 1),), ((0, 0, 20),), ((0, 1, 1),), ((0, 0, 2), (0, 1, 3), (1, 0, 1), (5, 0, 20)),
                         ((2, 1, 1), (3, 0, 1), (4, 1, 7)), tuple((k, 0, 20) for k in range(6)))

    def test_drawn_plans_are_right(self):
        draw = random.Random(11)
        for system in drawn_systems(60):
            arrivals = drawn_arrivals(draw, system)
            self.assertIsNone(place_of(check_plan, system, arrivals, drawn_plan(draw, system, arrivals, False)))

    def test_order(self):
        self.assert_refuses(1, ((1, 0, 1), (0, 0, 1)), ((0, 1, 1), (0, 0, 1)), ((0, 0, 1), (0, 0, 1)),
                            ((0, 0, 1), (0, 0, 2)), ((2, 1, 1), (1, 0, 1)), ((0, 1, 1), (0, 1, 1), (1, 0, 1)))
        self.assert_refuses(2, ((0, 0, 1), (2, 0, 1), (1, 0, 1)), ((0, 0, 1), (0, 1, 1), (0, 1, 1)),
                            ((0, 0, 1), (0, 1, 1), (0, 0, 1)))

    def test_items_and_segments_that_there_are_not(self):
        for triple in ((6, 0, 1), (-1, 0, 1), (10**30, 0, 1), (5, 1, 1), (5, -1, 1), (5, 10**30, 1)):
            self.assert_refuses(0, (triple,), (triple, (0, 0, 1)))
            self.assert_refuses(1, ((4, 1, 1), triple))
        self.assert_refuses(0, ((0, 2, 1),), ((1, 1, 1),), ((0, -1, 1),), ((2, 2, 1),))
        self.assertEqual(place_of(check_plan, parse("budget all 1"), (), ((0, 0, 1),)), 0)

    def test_bodies_that_come_are_items(self):
        self.assertIsNone(place_of(check_plan, SYSTEM, ((3,), (), ()), ((2, 1, 1),)))
        self.assertEqual(place_of(check_plan, SYSTEM, ((3,), (), ()), ((3, 0, 1),)), 0)
        self.assertEqual(place_of(check_plan, SYSTEM, ((), (0,), ()), ((2, 1, 1),)), 0)

    def test_counts(self):
        for count in (0, -1, 21, 10**30) + NO_INTEGERS:
            self.assert_refuses(0, ((0, 0, count),), ((0, 0, count), (0, 1, 0)))
            self.assert_refuses(1, ((0, 0, 1), (0, 1, count)))

    def test_no_integers(self):
        for number in NO_INTEGERS:
            self.assert_refuses(0, ((number, 0, 1),), ((0, number, 1),))
            self.assert_refuses(1, ((0, 0, 1), (number, 0, 1)), ((0, 0, 1), (0, number, 1)))
        # True would be the index 1.
        self.assert_refuses(0, ((True, 0, 1),), ((0, True, 1),), ((False, 0, 1),))

    def test_other_things_in_place_of_a_triple(self):
        for triple in ((0, 1), (0, 1, 1, 1), (), [0, 1, 1], None, 0, True, "abc", ((0, 1, 1),), DEEP, (DEEP, 0, 1)):
            self.assertEqual(place_of(check_plan, SYSTEM, ARRIVALS, (triple,)), 0)
            self.assertEqual(place_of(check_plan, SYSTEM, ARRIVALS, ((0, 0, 1), triple)), 1)

    def test_other_things_in_place_of_the_whole(self):
        self.assert_refuses(0, None, [], [(0, 0, 1)], 0, True, "", "abc", [()])
        self.assertEqual(place_of(check_plan, SYSTEM, ARRIVALS, DEEP), 0)


class NeedsTest(unittest.TestCase):
    def test_needs(self):
        self.assertEqual(needs(SYSTEM, ARRIVALS, ()), [6, 2, 3, 3, 3, 1])
        self.assertEqual(needs(SYSTEM, ARRIVALS, ((0, 0, 2), (0, 1, 1), (3, 1, 20), (5, 0, 3))), [17, 2, 3, 23, 3, 4])

    def test_faults(self):
        self.assertEqual(faults_of(SYSTEM, ARRIVALS, ()), (0, 0))
        self.assertEqual(faults_of(SYSTEM, ARRIVALS, ((0, 0, 2), (0, 1, 1), (3, 1, 20), (5, 0, 3))), (1, 25))

    def test_a_job_wholly_done(self):
        system = parse("budget all 1\njob a 0 to 9 done 4 do 4 all\n")
        self.assertEqual(needs(system, (), ()), [0])
        self.assertEqual(needs(system, (), ((0, 0, 2),)), [8])

    def test_against_plain_counting(self):
        draw = random.Random(12)
        for system in drawn_systems(80):
            arrivals = drawn_arrivals(draw, system)
            plan = drawn_plan(draw, system, arrivals, False)
            needed, faults = [], (0,) * len(system[1])
            for k, (_, _, done, segments) in enumerate(plain_items(system, arrivals)):
                needed.append(-done)
                for at, (length, source) in enumerate(segments):
                    counts = [count for item, segment, count in plan if (item, segment) == (k, at)]
                    needed[k] += length * (1 + sum(counts))
                    faults = put(faults, source, faults[source] + sum(counts))
            self.assertEqual(needs(system, arrivals, plan), needed)
            self.assertEqual(faults_of(system, arrivals, plan), faults)


if __name__ == "__main__":
    unittest.main()
