"""Point 14: the bounds of a day that goes on."""

import random
import unittest

from roomsday.days import Day
from roomsday.errors import DayError
from roomsday.worst import latest
from tests.samples import CASES, HOUSE, PLAN, samples
from tests.slow_days import SlowDay, do, random_deed, random_house
from tests.test_days import FOUR, FOUR_HOUSE, FOUR_PLAN, four


class ByHand(unittest.TestCase):
    def test_at_the_beginning(self):
        self.assertEqual(four(0).bounds(), [
            ("a", 0, 0, 1, 3), ("b", 1, 3, 2, 5), ("c", 4, 4, 5, 6), ("d", 7, 7, 8, 8)])
        self.assertEqual(four(1).bounds(), [
            ("a", 0, 0, 1, 5), ("b", 1, 5, 2, 7), ("c", 4, 5, 5, 7), ("d", 7, 7, 8, 16)])
        self.assertEqual(four(2).bounds(), [
            ("a", 0, 0, 1, 5), ("b", 1, 5, 2, 9), ("c", 4, 5, 5, 7), ("d", 7, 7, 8, 16)])

    def test_in_the_midst_of_a_day(self):
        day = four(1)
        day.pass_by(2)
        self.assertEqual(day.bounds(), [
            ("a", 0, 0, 2, 5), ("b", 2, 5, 3, 7), ("c", 4, 5, 5, 7), ("d", 7, 7, 8, 16)])
        day.end("a")
        self.assertEqual(day.bounds(), [
            ("b", 2, 2, 3, 6), ("c", 4, 4, 5, 6), ("d", 7, 7, 8, 16)])

    def test_a_case_may_end_in_this_minute_but_where_it_began_in_it(self):
        day = four()
        self.assertEqual(day.bounds()[0], ("a", 0, 0, 1, 5))
        day.pass_by()
        self.assertEqual(day.bounds()[0], ("a", 0, 0, 1, 5))
        day.pass_by()
        self.assertEqual(day.bounds()[0], ("a", 0, 0, 2, 5))

    def test_at_its_usual_time_with_none_left_to_run_over(self):
        day = four(0)
        day.pass_by(3)
        self.assertEqual(day.bounds()[:2], [("a", 0, 0, 3, 3), ("b", 3, 3, 4, 5)])
        day.pass_by()
        self.assertIsNone(day.bounds())

    def test_what_runs_over_is_counted_once(self):
        day = four(1)
        day.pass_by(4)
        # a runs over and may take its longest time; nothing else may run over then.
        self.assertEqual(day.bounds(), [
            ("a", 0, 0, 4, 5), ("b", 4, 5, 5, 7), ("c", 4, 5, 5, 7), ("d", 7, 7, 8, 8)])
        day.end("a")
        self.assertEqual(day.bounds(), [("b", 4, 4, 5, 6), ("c", 4, 4, 5, 6), ("d", 7, 7, 8, 8)])

    def test_none_where_more_than_many_have_run_over(self):
        day = four(1)
        day.pass_by(7)
        self.assertEqual(day.over(), 1)
        self.assertIsNotNone(day.bounds())
        day.pass_by()
        self.assertEqual(day.over(), 2)
        self.assertIsNone(day.bounds())
        day.pass_by(1000)
        self.assertEqual(len(day), 0)
        self.assertIsNone(day.bounds())
        day.back()
        day.back()
        self.assertIsNotNone(day.bounds())

    def test_none_of_done_cases(self):
        day = four(8)
        day.pass_by(1000)
        self.assertEqual(day.bounds(), [])

    def test_kinds(self):
        told = four().bounds()
        self.assertIs(type(told), list)
        for row in told:
            self.assertIs(type(row), tuple)
            self.assertEqual([type(part) for part in row], [str, int, int, int, int])


class AgainstASearch(unittest.TestCase):
    def same(self, day, slow, few=False):
        self.assertEqual(day.bounds(), slow.bounds(few))

    def go_on(self, chance, cases, plan, many, few, deeds):
        """Compare the bounds at the beginning and behind each of so many deeds."""
        longest, rooms = max([1] + [case[2] for case in cases]), 3
        day = Day(random_house(rooms), cases, plan, many=many)
        slow = SlowDay(cases, plan, many)
        self.same(day, slow, few)
        for _ in range(deeds):
            deed = random_deed(chance, day, longest, rooms)
            if deed[0] == "urgent":
                continue
            try:
                do(day, deed)
            except DayError:
                continue
            do(slow, deed)
            self.same(day, slow, few)

    def test_over_all_days_that_go_on(self):
        chance = random.Random(51)
        for cases, plan in samples(51, 50, fewest=1, most=4, longest=3, rooms=3):
            plan = tuple(sorted([(min(row[0], 12), *row[1:]) for row in plan if row[0] <= 40]))
            cases = tuple([(*case[:5], min(case[5], 4)) for case in cases])
            cases = tuple([(*case[:2], min(case[2], case[1] + 2), *case[3:]) for case in cases])
            self.go_on(chance, cases, plan, chance.choice((0, 1, 1, 2, 3)), False, 8)

    def test_over_days_of_the_least_usual_and_longest_times(self):
        # Longer times make nothing earlier, so these days hold all bounds.
        chance = random.Random(52)
        for cases, plan in samples(52, 12, fewest=4, most=6, longest=15, rooms=3):
            self.go_on(chance, cases, plan, chance.randint(0, 4), True, 8)

    def test_the_minute_in_which_a_case_began(self):
        for many in range(4):
            day, slow = four(many), SlowDay(FOUR, FOUR_PLAN, many)
            for deed in (("pass", 2), ("end", "a"), ("pass", 1), ("pass", 1), ("end", "b"), ("pass", 3), ("pass", 2)):
                self.same(day, slow)
                do(day, deed)
                do(slow, deed)
            self.same(day, slow)

    def test_a_plan_that_is_not_begun_has_the_latest_times_of_worst(self):
        for cases, plan in samples(53, 20, rooms=3):
            later = tuple([(row[0] + 1, *row[1:]) for row in plan])
            for many in range(9):
                day = Day(random_house(3), cases, later, many=many)
                told = [(row[0], row[2], row[4]) for row in day.bounds()]
                self.assertEqual(told, latest(cases, later, many))


class Narrowing(unittest.TestCase):
    def test_no_latest_time_grows_and_no_earliest_one_falls(self):
        chance = random.Random(54)
        seen = 0
        for cases, plan in samples(54, 80, fewest=1, longest=20, rooms=3):
            day = Day(random_house(3), cases, plan, many=chance.randint(0, 3))
            before = {row[0]: row for row in day.bounds()}
            while len(day):
                going = [row for row in day.states() if row[1] in ("goes", "over") and row[2] < day.minute()]
                # Ends are told early and often, so that the day stays within its bounds for long.
                if going and chance.random() < 0.4:
                    day.end(chance.choice(going)[0])
                else:
                    day.pass_by(chance.randint(1, 3))
                if day.bounds() is None:
                    break
                for name, state, begin, end in day.states():
                    if state == "done" and name in before:
                        self.assertTrue(before[name][1] <= begin <= before[name][2])
                        self.assertTrue(before[name][3] <= end <= before[name][4])
                now = {row[0]: row for row in day.bounds()}
                for name in now:
                    self.assertGreaterEqual(now[name][1], before[name][1])
                    self.assertLessEqual(now[name][2], before[name][2])
                    self.assertGreaterEqual(now[name][3], before[name][3])
                    self.assertLessEqual(now[name][4], before[name][4])
                    seen += 1
                before = now
        self.assertGreater(seen, 1000)

    def test_the_samples_of_the_other_files(self):
        day = Day(HOUSE, CASES, PLAN, many=1)
        self.assertEqual(day.bounds(), [
            ("eye", 10, 10, 11, 30), ("hip", 30, 30, 31, 120), ("jaw", 40, 40, 41, 140), ("knee", 90, 120, 91, 170)])
        day.pass_by(85)
        # jaw runs over since minute 81, so that hip and knee have their usual times at most.
        self.assertEqual(day.bounds(), [
            ("hip", 30, 30, 85, 90), ("jaw", 40, 40, 85, 140), ("knee", 90, 90, 91, 140)])
