import copy
import random
import unittest

from roomsday.errors import NoCase
from roomsday.plans import told_day
from roomsday.worst import beyond, is_paper, latest, paper, worst_day
from tests.samples import (
    CASES, PEOPLE, PLAN, all_days, case_named, full_days, latest_of, odd_things, samples, slow_day,
    with_part)


def over(cases, plan, day):
    """How many cases run over on a day."""
    return sum(took > case_named(cases, row[1])[1] for took, row in zip(day, plan))


def later(cases, plan, much):
    """Cases and plan with all first times and starts later by as much."""
    return (
        tuple([with_part(case, 5, case[5] + much) for case in cases]),
        tuple([with_part(row, 0, row[0] + much) for row in plan]))


class Latest(unittest.TestCase):
    def test_by_hand(self):
        self.assertEqual(latest(CASES, PLAN, 0), [
            ("eye", 10, 30), ("hip", 30, 90), ("jaw", 40, 80), ("knee", 90, 140)])
        self.assertEqual(latest(CASES, PLAN, 1), [
            ("eye", 10, 30), ("hip", 30, 120), ("jaw", 40, 140), ("knee", 120, 170)])
        self.assertEqual(latest(CASES, PLAN, 2), [
            ("eye", 10, 30), ("hip", 30, 120), ("jaw", 40, 140), ("knee", 120, 190)])

    def test_by_names_and_of_none(self):
        self.assertEqual(latest(many=1, plan=PLAN, cases=CASES), latest(CASES, PLAN, 1))
        for many in range(9):
            self.assertEqual(latest(CASES, (), many), [])
            self.assertEqual(latest((), (), many), [])

    def test_against_all_days(self):
        for cases, plan in samples(11, 60, most=4, longest=3, rooms=2):
            for many in range(9):
                days = [slow_day(cases, plan, day) for day in all_days(cases, plan, many)]
                self.assertEqual(latest(cases, plan, many), latest_of(days, plan))

    def test_against_all_full_days(self):
        # Longer times make nothing earlier, so these days hold the latest begins and ends.
        for cases, plan in samples(12, 40):
            days = {day: slow_day(cases, plan, day) for day in full_days(cases, plan, 8)}
            for many in range(9):
                within = [days[day] for day in days if day in set(full_days(cases, plan, many))]
                self.assertEqual(latest(cases, plan, many), latest_of(within, plan))

    def test_eight_cases_in_one_row(self):
        cases = tuple([(name, 10, 10 + at, ("ann",), (0,), 0) for at, name in enumerate("abcdefgh")])
        plan = tuple([(0, name, 0) for name in "abcdefgh"])
        ends = [latest(cases, plan, many)[7][2] for many in range(9)]
        self.assertEqual(ends, [80, 87, 93, 98, 102, 105, 107, 108, 108])

    def test_the_usual_time_as_the_longest_takes_no_count(self):
        cases = (("a", 10, 10, (), (0,), 0), ("b", 10, 30, (), (0,), 0))
        plan = ((0, "a", 0), (5, "b", 0))
        self.assertEqual(latest(cases, plan, 1), [("a", 0, 10), ("b", 10, 40)])
        self.assertEqual(worst_day(cases, plan, 1, "a")[0], 10)
        self.assertEqual(worst_day(cases, plan, 1, "b"), (10, 30))

    def test_a_start_that_takes_up_what_ran_over(self):
        cases = (("a", 10, 30, (), (0,), 0), ("b", 10, 15, (), (0,), 0))
        self.assertEqual(latest(cases, ((0, "a", 0), (29, "b", 0)), 1), [("a", 0, 30), ("b", 30, 44)])
        self.assertEqual(latest(cases, ((0, "a", 0), (30, "b", 0)), 1), [("a", 0, 30), ("b", 30, 45)])

    def test_kinds(self):
        told = latest(CASES, PLAN, 3)
        self.assertIs(type(told), list)
        for row in told:
            self.assertEqual([type(part) for part in row], [str, int, int])
            self.assertIs(type(row), tuple)

    def test_beyond_the_counts_raises_nothing(self):
        for many in (-1, 9, 12):
            self.assertEqual(len(latest(CASES, PLAN, many)), 4)
            self.assertEqual(len(worst_day(CASES, PLAN, many, "hip")), 4)
            self.assertEqual(len(paper(CASES, PLAN, many)), 4)
            self.assertIs(is_paper(CASES, PLAN, many, None), False)
            self.assertEqual(len(beyond(CASES, PLAN, many, (("ann", 4001),))), 1)
        self.assertEqual(latest(CASES, PLAN, 9), latest(CASES, PLAN, 8))


class WorstDay(unittest.TestCase):
    def check(self, cases, plan, many, row):
        day = worst_day(cases, plan, many, row[0])
        self.assertIs(type(day), tuple)
        self.assertEqual(len(day), len(plan))
        for took, planned in zip(day, plan):
            self.assertIs(type(took), int)
            self.assertTrue(1 <= took <= case_named(cases, planned[1])[2])
        self.assertLessEqual(over(cases, plan, day), many)
        told = [told for told in slow_day(cases, plan, day) if told[0] == row[0]]
        self.assertEqual(told[0][2], row[2])

    def test_it_ends_so_late(self):
        for cases, plan in samples(13, 40):
            for many in range(9):
                for row in latest(cases, plan, many):
                    self.check(cases, plan, many, row)

    def test_tight_plans(self):
        for cases, plan in samples(14, 60, fewest=5, longest=6):
            plan = tuple(sorted([(case_named(cases, row[1])[5], *row[1:]) for row in plan]))
            for many in (0, 1, 2, 3, 8):
                for row in latest(cases, plan, many):
                    self.check(cases, plan, many, row)

    def test_by_hand(self):
        day = worst_day(CASES, PLAN, 1, "knee")
        self.assertEqual(told_day(CASES, PLAN, day)[3][2], 170)
        self.assertEqual(day[1], 90)
        self.assertEqual(worst_day(CASES, PLAN, 0, "knee")[3], 50)
        self.assertEqual(worst_day(name="hip", many=1, plan=PLAN, cases=CASES),
                         worst_day(CASES, PLAN, 1, "hip"))

    def test_no_case(self):
        # toe is one of the cases, but left out of the plan.
        for name in ("toe", "arm", "", "HIP", "hi", "hip ", "~" * 10000, "a\nb"):
            with self.assertRaises(NoCase) as caught:
                worst_day(CASES, PLAN, 1, name)
            self.assertEqual(caught.exception.name, name)
        with self.assertRaises(NoCase):
            worst_day(CASES, (), 0, "hip")
        with self.assertRaises(NoCase):
            worst_day((), (), 8, "hip")

    def test_the_same_day_where_all_is_later(self):
        for cases, plan in samples(15, 40):
            for much in (1, 17, 500):
                cases_then, plan_then = later(cases, plan, much)
                for many in (0, 1, 2, 4, 8):
                    for row in plan:
                        self.assertEqual(
                            worst_day(cases_then, plan_then, many, row[1]),
                            worst_day(cases, plan, many, row[1]))
                    self.assertEqual(
                        latest(cases_then, plan_then, many),
                        [(name, begin + much, end + much) for name, begin, end in latest(cases, plan, many)])


class Papers(unittest.TestCase):
    def told(self, cases, plan, many, thing, answer):
        self.assertIs(is_paper(cases, plan, many, thing), answer)
        self.assertIs(is_paper(thing=thing, many=many, plan=plan, cases=cases), answer)

    def test_the_numbers_are_the_latest_begins(self):
        for cases, plan in samples(16, 40):
            for many in range(9):
                made = paper(cases, plan, many)
                self.assertIs(type(made), tuple)
                self.assertEqual([len(row) for row in made], [many + 1] * len(plan))
                for count in range(many + 1):
                    begins = [row[1] for row in latest(cases, plan, count)]
                    self.assertEqual([row[count] for row in made], begins)
                for row in made:
                    self.assertIs(type(row), tuple)
                self.told(cases, plan, many, made, True)

    def test_by_hand(self):
        made = ((10, 10, 10), (30, 30, 30), (40, 40, 40), (90, 120, 120))
        self.assertEqual(paper(CASES, PLAN, 2), made)
        self.assertEqual(paper(many=2, plan=PLAN, cases=CASES), made)
        self.told(CASES, PLAN, 2, made, True)

    def test_one_number_less_is_none(self):
        for cases, plan in samples(17, 25, fewest=1):
            for many in (0, 1, 3, 8):
                made = paper(cases, plan, many)
                for at in range(len(plan)):
                    for count in range(many + 1):
                        less = with_part(made[at], count, made[at][count] - 1)
                        self.told(cases, plan, many, with_part(made, at, less), False)

    def test_greater_numbers_that_keep_the_bounds(self):
        for cases, plan in samples(18, 25, fewest=1):
            for many in (0, 2, 8):
                made = paper(cases, plan, many)
                self.told(cases, plan, many, tuple([tuple([n + 10 ** 38 for n in row]) for row in made]), True)
                last = tuple([n + 5 + 3 * at for at, n in enumerate(made[-1])])
                self.told(cases, plan, many, with_part(made, len(plan) - 1, last), True)

    def test_each_bound(self):
        cases = (("a", 10, 30, (), (0,), 0), ("b", 10, 15, (), (0,), 0))
        plan = ((0, "a", 0), (5, "b", 0))
        self.told(cases, plan, 1, ((0, 0), (10, 30)), True)
        self.told(cases, plan, 1, ((0, 25), (10, 35)), True)
        self.told(cases, plan, 1, ((0, 25), (10, 34)), False)
        self.told(cases, plan, 1, ((2, 0), (12, 32)), True)
        self.told(cases, plan, 1, ((2, 0), (11, 32)), False)
        self.told(cases, plan, 1, ((2, 0), (12, 31)), False)
        self.told(cases, plan, 1, ((-1, 0), (10, 30)), False)
        self.told(cases, plan, 1, ((0, -1), (10, 30)), False)
        self.told(cases, plan, 1, ((10 ** 39, 0), (10, 30)), False)
        self.told(cases, plan, 0, ((0,), (10,)), True)

    def test_counts_and_kinds(self):
        made = paper(CASES, PLAN, 1)
        for many in (0, 2, 8):
            self.told(CASES, PLAN, many, made, False)
        self.told(CASES, PLAN, 1, made[:3], False)
        self.told(CASES, PLAN, 1, made + ((500, 500),), False)
        self.told(CASES, PLAN, 1, list(made), False)
        self.told(CASES, PLAN, 1, with_part(made, 3, list(made[3])), False)
        self.told(CASES, PLAN, 1, with_part(made, 0, made[0] + (10,)), False)
        self.told(CASES, PLAN, 1, with_part(made, 0, made[0][:1]), False)
        for odd in odd_things():
            self.told(CASES, PLAN, 1, odd, False)
            self.told(CASES, PLAN, 1, with_part(made, 3, odd), False)
            if type(odd) is not int or odd < 90:
                self.told(CASES, PLAN, 1, with_part(made, 3, (odd, 10 ** 39)), False)
        self.told(CASES, PLAN, 1, with_part(made, 3, (10 ** 39, 10 ** 39)), True)

    def test_true_and_false_are_no_numbers(self):
        cases = (("a", 10, 30, (), (0,), 0),)
        plan = ((0, "a", 0),)
        self.told(cases, plan, 1, ((0, 1),), True)
        self.told(cases, plan, 1, ((0, True),), False)
        self.told(cases, plan, 1, ((False, 1),), False)
        self.told(cases, plan, 1, ((0.0, 1),), False)

    def test_of_a_plan_without_cases(self):
        for many in (0, 8):
            self.assertEqual(paper(CASES, (), many), ())
            self.told(CASES, (), many, (), True)
            for odd in odd_things():
                self.told(CASES, (), many, odd, False)

    def test_no_case_begins_later_than_by_a_paper(self):
        for cases, plan in samples(19, 15, fewest=1, most=4, longest=3):
            made = paper(cases, plan, 3)
            for count in range(4):
                for day in all_days(cases, plan, count):
                    for row, (_, begin, _) in zip(made, told_day(cases, plan, day)):
                        self.assertLessEqual(begin, row[count])


class Beyond(unittest.TestCase):
    def test_by_hand(self):
        hours = (("ann", 100), ("bo", 100), ("cy", 200), ("dee", 0), ("eve", 4000))
        self.assertEqual(beyond(CASES, PLAN, 1, hours), [
            ("ann", 20), ("bo", 70), ("cy", 0), ("dee", 0), ("eve", 0)])
        self.assertEqual(beyond(hours=hours, many=1, plan=PLAN, cases=CASES), beyond(CASES, PLAN, 1, hours))

    def test_the_edges(self):
        self.assertEqual(beyond(CASES, PLAN, 1, (("ann", 120),)), [("ann", 0)])
        self.assertEqual(beyond(CASES, PLAN, 1, (("ann", 119),)), [("ann", 1)])
        self.assertEqual(beyond(CASES, PLAN, 1, (("ann", 0),)), [("ann", 120)])
        self.assertEqual(beyond(CASES, PLAN, 1, (("ann", 4000),)), [("ann", 0)])

    def test_of_none(self):
        self.assertEqual(beyond(CASES, PLAN, 8, ()), [])
        self.assertEqual(beyond(CASES, (), 8, (("ann", 0), ("bo", 5))), [("ann", 0), ("bo", 0)])
        self.assertEqual(beyond((), (), 8, (("ann", 0),)), [("ann", 0)])

    def test_only_teams_of_the_plan_count(self):
        # dee is in the team of toe alone, which is left out of the plan.
        self.assertEqual(beyond(CASES, PLAN, 8, (("dee", 0),)), [("dee", 0)])

    def test_the_latest_of_several_cases_need_not_be_the_last(self):
        cases = (("a", 100, 100, ("ann",), (0,), 0), ("b", 10, 10, ("bo",), (1,), 0),
                 ("c", 10, 10, ("bo",), (1,), 0))
        plan = ((0, "a", 0), (1, "b", 1), (2, "c", 1))
        self.assertEqual(beyond(cases, plan, 0, (("ann", 30), ("bo", 20))), [("ann", 70), ("bo", 1)])

    def test_against_all_days(self):
        chance = random.Random(20)
        for cases, plan in samples(20, 40, most=4, longest=3):
            hours = tuple([(name, chance.randint(0, 40)) for name in PEOPLE[:6]])
            for many in (0, 1, 2, 8):
                days = [slow_day(cases, plan, day) for day in all_days(cases, plan, many)]
                slow = []
                for name, minute in hours:
                    needed = [row[2] - minute for day in days for row in day
                              if name in case_named(cases, row[0])[3]]
                    slow.append((name, max([0] + needed)))
                self.assertEqual(beyond(cases, plan, many, hours), slow)


class ThePromise(unittest.TestCase):
    def no_earlier(self, told, before):
        for (_, begin, end), (_, begin_before, end_before) in zip(told, before):
            self.assertGreaterEqual(begin, begin_before)
            self.assertGreaterEqual(end, end_before)

    def test_no_day_goes_beyond_and_some_day_goes_so_far(self):
        for cases, plan in samples(21, 20, most=4, longest=3):
            for many in range(5):
                told = latest(cases, plan, many)
                days = [told_day(cases, plan, day) for day in all_days(cases, plan, many)]
                for day in days:
                    self.no_earlier(told, day)
                for at, row in enumerate(told):
                    self.assertIn(row[1], [day[at][1] for day in days])
                    self.assertIn(row[2], [day[at][2] for day in days])

    def test_more_cases_that_run_over(self):
        for cases, plan in samples(22, 40):
            for many in range(8):
                self.no_earlier(latest(cases, plan, many + 1), latest(cases, plan, many))

    def test_longer_times(self):
        chance = random.Random(23)
        for cases, plan in samples(23, 40):
            longer = []
            for name, usual, longest, *rest in cases:
                more = chance.randint(0, 9)
                longer.append((name, usual + more, longest + more + chance.randint(0, 9), *rest))
            for many in range(9):
                self.no_earlier(latest(tuple(longer), plan, many), latest(cases, plan, many))

    def test_later_starts_in_the_same_order(self):
        chance = random.Random(24)
        for cases, plan in samples(24, 40):
            much, moved = 0, []
            for start, name, room in plan:
                much += chance.randint(0, 6)
                moved.append((start + much, name, room))
            for many in range(9):
                self.no_earlier(latest(cases, tuple(moved), many), latest(cases, plan, many))


class TheAskersOwn(unittest.TestCase):
    def test_a_list_that_was_changed_changes_nothing_later(self):
        hours = (("ann", 5), ("bo", 6))
        for ask in (lambda: latest(CASES, PLAN, 2), lambda: beyond(CASES, PLAN, 2, hours)):
            first = ask()
            kept = copy.deepcopy(first)
            first.append("x")
            first[0] = None
            self.assertEqual(ask(), kept)
            self.assertIsNot(ask(), ask())

    def test_the_same_asked_again(self):
        for cases, plan in samples(25, 10, fewest=1):
            for many in (0, 2):
                name = plan[0][1]
                self.assertEqual(worst_day(cases, plan, many, name), worst_day(cases, plan, many, name))
                self.assertEqual(paper(cases, plan, many), paper(cases, plan, many))

    def test_what_is_handed_in_is_as_it_was(self):
        hours = (("ann", 5), ("bo", 6))
        before = copy.deepcopy((CASES, PLAN, hours))
        latest(CASES, PLAN, 2), worst_day(CASES, PLAN, 2, "hip"), beyond(CASES, PLAN, 2, hours)
        thing = [list(row) for row in paper(CASES, PLAN, 2)]
        kept = copy.deepcopy(thing)
        self.assertIs(is_paper(CASES, PLAN, 2, thing), False)
        self.assertEqual(thing, kept)
        self.assertEqual((CASES, PLAN, hours), before)
