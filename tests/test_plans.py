import copy
import random
import unittest

from roomsday.cases import are_cases
from roomsday.plans import is_plan, is_smooth, leans, told_day
from tests.samples import (
    CASES, HOUSE, PLAN, case_named, odd_things, random_cases, samples, slow_day, slow_leans,
    with_part)

EARLY = (("a", 5, 9, (), (0, 1), 0), ("b", 5, 9, (), (0,), 600), ("c", 5, 9, (), (1, 3), 7))


class Plans(unittest.TestCase):
    def told(self, cases, thing, answer):
        with self.subTest(repr(thing)[:80]):
            self.assertIs(is_plan(cases, thing), answer)
            self.assertIs(is_plan(thing=thing, cases=cases), answer)

    def parts(self, row, at, good, bad):
        for part in good:
            self.told(EARLY, (with_part(row, at, part),), True)
        for part in bad:
            self.told(EARLY, (with_part(row, at, part),), False)

    def test_the_samples_are_such(self):
        self.assertIs(are_cases(HOUSE, CASES), True)
        self.told(CASES, PLAN, True)
        for cases, plan in samples(1, 50):
            self.told(cases, plan, True)

    def test_starts(self):
        odd = (-1, 2001, 10 ** 39, True, False, None, "0", (0,), [0], 0.0)
        self.parts((0, "a", 0), 0, (0, 1, 1999, 2000), odd)

    def test_no_start_ahead_of_first(self):
        self.parts((0, "b", 0), 0, (600, 601, 2000), (599, 0, 2001))
        self.parts((0, "c", 1), 0, (7, 8), (6, 0))

    def test_names(self):
        self.parts((600, "a", 0), 1, ("a", "b"), (
            "d", "", "A", "aa", None, 0, True, ("a",), ["a"], [], 10 ** 39))

    def test_rooms(self):
        self.parts((0, "a", 0), 2, (0, 1), (
            2, 3, -1, True, False, None, "0", (0,), [0], (0, 1), 0.0))
        self.parts((7, "c", 1), 2, (1, 3), (0, 2, 4, True))

    def test_no_case_twice(self):
        self.told(EARLY, ((0, "a", 0), (5, "a", 0)), False)
        self.told(EARLY, ((0, "a", 0), (0, "a", 1)), False)
        self.told(EARLY, ((0, "a", 0), (0, "a", 0)), False)
        self.told(EARLY, ((0, "a", 0), (7, "c", 1), (9, "a", 1)), False)

    def test_rising(self):
        self.told(EARLY, ((7, "a", 1), (7, "c", 1)), True)
        self.told(EARLY, ((7, "c", 1), (7, "a", 1)), False)
        self.told(EARLY, ((7, "c", 1), (8, "a", 1)), True)
        self.told(EARLY, ((8, "a", 1), (7, "c", 1)), False)
        self.told(EARLY, ((9, "c", 1), (10, "a", 1)), True)
        self.told(EARLY, ((0, "a", 0), (601, "b", 0), (8, "c", 1)), False)

    def test_cases_may_be_left_out(self):
        self.told(EARLY, (), True)
        self.told((), (), True)
        self.told(EARLY, ((600, "b", 0),), True)
        self.told(EARLY, ((0, "a", 0), (8, "c", 3), (600, "b", 0)), True)
        self.told((), ((0, "a", 0),), False)

    def test_form(self):
        for thing in odd_things():
            self.told(EARLY, thing, thing == ((1, "a", 0),))
            self.told(CASES, thing, False)
        for thing in ([], [(0, "a", 0)], ([0, "a", 0],), ((0, "a"),), ((0, "a", 0, 0),),
                      (0, "a", 0), ((0, "a", 0), ()), ((0, "a", 0), None), (("a", 0, 0),)):
            self.told(EARLY, thing, False)
        for at in range(3):
            for odd in odd_things():
                if type(odd) not in (int, str):
                    self.told(EARLY, (with_part((0, "a", 0), at, odd),), False)


class Leaning(unittest.TestCase):
    def test_by_room_by_team_by_both_by_neither(self):
        self.assertEqual(leans(CASES, PLAN), [(), (0,), (), (0, 1)])
        self.assertEqual(leans(plan=PLAN, cases=CASES), leans(CASES, PLAN))

    def test_each_alone(self):
        cases = (
            ("a", 5, 9, ("x", "y"), (0, 1), 0), ("b", 5, 9, ("y", "z"), (0, 1), 0),
            ("c", 5, 9, ("w",), (0, 1), 0), ("d", 5, 9, (), (0, 1), 0))
        self.assertEqual(leans(cases, ((0, "a", 0), (0, "b", 1))), [(), (0,)])
        self.assertEqual(leans(cases, ((0, "a", 0), (0, "c", 0))), [(), (0,)])
        self.assertEqual(leans(cases, ((0, "a", 0), (0, "b", 0))), [(), (0,)])
        self.assertEqual(leans(cases, ((0, "a", 0), (0, "c", 1))), [(), ()])
        self.assertEqual(leans(cases, ((0, "c", 0), (0, "d", 1))), [(), ()])
        self.assertEqual(leans(cases, ((0, "b", 1), (9, "a", 0))), [(), (0,)])

    def test_on_all_ahead_not_only_the_last(self):
        cases = tuple([(name, 5, 9, (), (0,), 0) for name in "abcd"])
        plan = tuple([(9, name, 0) for name in "abcd"])
        self.assertEqual(leans(cases, plan), [(), (0,), (0, 1), (0, 1, 2)])

    def test_of_none(self):
        self.assertEqual(leans((), ()), [])
        self.assertEqual(leans(CASES, ()), [])

    def test_the_order_is_the_plans(self):
        plan = ((5, "knee", 0), (30, "hip", 1), (90, "eye", 1))
        self.assertEqual(leans(CASES, plan), [(), (0,), (0, 1)])

    def test_kinds(self):
        for cases, plan in samples(2, 30):
            told = leans(cases, plan)
            self.assertIs(type(told), list)
            self.assertEqual(told, [tuple(places) for places in slow_leans(cases, plan)])
            for at, places in enumerate(told):
                self.assertIs(type(places), tuple)
                self.assertEqual(places, tuple(sorted(set(places))))
                self.assertTrue(all(0 <= place < at for place in places))


class Days(unittest.TestCase):
    def test_at_the_starts(self):
        self.assertEqual(told_day(CASES, PLAN, (20, 60, 40, 1)), [
            ("eye", 10, 30), ("hip", 30, 90), ("jaw", 40, 80), ("knee", 90, 91)])

    def test_later_because_of_one(self):
        self.assertEqual(told_day(CASES, PLAN, (20, 61, 500, 50)), [
            ("eye", 10, 30), ("hip", 30, 91), ("jaw", 40, 540), ("knee", 91, 141)])

    def test_later_because_of_several(self):
        cases = (
            ("a", 5, 9, ("ann",), (0, 1, 2), 0), ("b", 5, 9, ("bo",), (0, 1, 2), 0),
            ("c", 5, 9, ("ann", "bo"), (0, 1, 2), 0))
        plan = ((0, "a", 0), (0, "b", 1), (1, "c", 2))
        self.assertEqual(told_day(cases, plan, (3, 7, 1))[2], ("c", 7, 8))
        self.assertEqual(told_day(cases, plan, (8, 7, 1))[2], ("c", 8, 9))
        self.assertEqual(told_day(cases, plan, (1, 1, 1))[2], ("c", 1, 2))

    def test_a_short_day_does_not_go_ahead_of_the_starts(self):
        self.assertEqual(told_day(CASES, PLAN, (1, 1, 1, 1)), [
            ("eye", 10, 11), ("hip", 30, 31), ("jaw", 40, 41), ("knee", 90, 91)])

    def test_longer_than_the_longest_times(self):
        self.assertEqual(told_day(CASES, PLAN, (1000, 2000, 10 ** 39, 3000)), [
            ("eye", 10, 1010), ("hip", 1010, 3010), ("jaw", 40, 40 + 10 ** 39), ("knee", 3010, 6010)])

    def test_by_names_and_of_none(self):
        self.assertEqual(
            told_day(minutes=(1, 2, 3, 4), plan=PLAN, cases=CASES), told_day(CASES, PLAN, (1, 2, 3, 4)))
        self.assertEqual(told_day(CASES, (), ()), [])
        self.assertIs(type(told_day(CASES, (), ())), list)

    def test_as_minutes_go_by(self):
        for number, (cases, plan) in enumerate(samples(3, 60)):
            minutes = tuple([1 + (7 * number + 13 * at) % 50 for at in range(len(plan))])
            self.assertEqual(told_day(cases, plan, minutes), slow_day(cases, plan, minutes))

    def test_nobody_in_two_rooms_and_no_room_with_two_cases(self):
        for cases, plan in samples(4, 60):
            day = told_day(cases, plan, tuple([3 * at + 1 for at in range(len(plan))]))
            for at in range(len(plan)):
                for ahead in range(at):
                    team = set(case_named(cases, plan[at][1])[3])
                    met = team & set(case_named(cases, plan[ahead][1])[3])
                    if met or plan[at][2] == plan[ahead][2]:
                        self.assertGreaterEqual(day[at][1], day[ahead][2])


class Smooth(unittest.TestCase):
    def told(self, plan, answer, cases=CASES):
        self.assertIs(is_smooth(cases, plan), answer)
        self.assertIs(is_smooth(plan=plan, cases=cases), answer)

    def test_true(self):
        self.told(PLAN, True)
        self.told((), True)
        self.told((), True, ())
        self.told(((2000, "toe", 0),), True)

    def test_false(self):
        self.told(((11, "eye", 0), (30, "hip", 0)), False)
        self.told(((10, "eye", 0), (30, "hip", 1), (89, "knee", 0)), False)
        self.told(((10, "eye", 0), (30, "hip", 1), (90, "knee", 0)), True)
        self.told(((0, "eye", 1), (0, "toe", 0), (9, "knee", 0)), False)

    def test_as_the_day_of_usual_times(self):
        answers = []
        for cases, plan in samples(5, 80, most=4):
            usual = tuple([case_named(cases, row[1])[1] for row in plan])
            begins = [row[1] for row in slow_day(cases, plan, usual)]
            answers.append(begins == [row[0] for row in plan])
            self.told(plan, answers[-1], cases)
        self.assertEqual(set(answers), {True, False})


class TheAskersOwn(unittest.TestCase):
    def test_a_list_that_was_changed_changes_nothing_later(self):
        for ask in (lambda: leans(CASES, PLAN), lambda: told_day(CASES, PLAN, (5, 6, 7, 8))):
            first = ask()
            kept = copy.deepcopy(first)
            first.append("x")
            first[0] = None
            self.assertEqual(ask(), kept)
            self.assertIsNot(ask(), ask())

    def test_what_is_handed_in_is_as_it_was(self):
        for thing in ([[0, "a", [0]]], ([0, "a", 0],), ((0, ["a"], [0]),)):
            before = copy.deepcopy(thing)
            self.assertIs(is_plan(EARLY, thing), False)
            self.assertEqual(thing, before)
        before = copy.deepcopy((CASES, PLAN))
        leans(CASES, PLAN), told_day(CASES, PLAN, (1, 2, 3, 4)), is_smooth(CASES, PLAN)
        self.assertEqual((CASES, PLAN), before)

    def test_more_cases_than_a_house_takes_raise_nothing(self):
        cases = random_cases(random.Random(6), 10)
        plan = tuple(sorted([(case[5], case[0], case[4][0]) for case in cases]))
        self.assertEqual(len(told_day(cases, plan, (5,) * 10)), 10)
        self.assertEqual(len(leans(cases, plan)), 10)
