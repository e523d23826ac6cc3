import copy
import itertools
import random
import unittest

from roomsday.errors import TooMany
from roomsday.makers import best_plan, called_off, plan_by
from roomsday.plans import is_plan, is_smooth
from roomsday.worst import latest
from tests.samples import (
    CASES, PLAN, case_named, full_days, random_cases, samples, slow_leans)


def slow_plan(cases, order):
    """A plan by an order, each start found by trying minute after minute, room after room."""
    put = []
    for name in order:
        case = case_named(cases, name)
        for start in itertools.count(case[5]):
            free = [room for room in case[4] if all(
                start >= other_start + other[1] for other_start, other, other_room in put
                if other_room == room or set(other[3]) & set(case[3]))]
            if free:
                put.append((start, case, free[0]))
                break
    return tuple(sorted([(start, case[0], room) for start, case, room in put]))


def slow_last_end(cases, plan, many):
    """The last end over all days within many that take usual or longest times."""
    leaning = slow_leans(cases, plan)
    last = 0
    for day in full_days(cases, plan, many):
        ends = []
        for at, row in enumerate(plan):
            ends.append(max([row[0]] + [ends[place] for place in leaning[at]]) + day[at])
        last = max([last] + ends)
    return last


def slow_best(cases, many):
    found = []
    ends = {}
    for order in itertools.permutations([case[0] for case in cases]):
        plan = slow_plan(cases, order)
        if plan not in ends:
            ends[plan] = slow_last_end(cases, plan, many)
        found.append((ends[plan], order, plan))
    return min(found)


def slow_called_off(cases, plan, many, minute):
    names = [row[1] for row in plan]
    good = []
    for answers in itertools.product((True, False), repeat=len(names)):
        off = tuple(sorted([name for name, answer in zip(names, answers) if answer]))
        rest = tuple([row for row in plan if row[1] not in off])
        if slow_last_end(cases, rest, many) <= minute:
            good.append((len(off), off))
    return min(good)[1]


class PlansByOrders(unittest.TestCase):
    def test_by_first_by_room_by_somebody(self):
        cases = (
            ("a", 10, 20, ("ann",), (0,), 5), ("b", 7, 20, (), (0,), 0),
            ("c", 3, 9, ("ann",), (1,), 2), ("d", 4, 4, (), (1,), 30))
        self.assertEqual(plan_by(cases, ("a", "b", "c", "d")),
                         ((5, "a", 0), (15, "b", 0), (15, "c", 1), (30, "d", 1)))
        self.assertEqual(plan_by(cases, ("d", "c", "b", "a")),
                         ((0, "b", 0), (30, "d", 1), (34, "c", 1), (37, "a", 0)))
        self.assertEqual(plan_by(cases, ("b", "c", "a", "d")),
                         ((0, "b", 0), (2, "c", 1), (7, "a", 0), (30, "d", 1)))

    def test_a_case_put_later_does_not_go_into_a_gap(self):
        cases = (("a", 10, 10, (), (0,), 100), ("b", 10, 10, (), (0,), 0))
        self.assertEqual(plan_by(cases, ("a", "b")), ((100, "a", 0), (110, "b", 0)))
        self.assertEqual(plan_by(cases, ("b", "a")), ((0, "b", 0), (100, "a", 0)))

    def test_the_room_with_the_least_start_and_of_several_the_first(self):
        cases = (("a", 10, 10, (), (0, 1, 3), 0), ("b", 5, 5, (), (0, 1, 3), 0),
                 ("c", 8, 8, (), (1, 3), 0), ("d", 1, 1, (), (0, 1, 2), 6))
        self.assertEqual(plan_by(cases, ("a", "b", "c", "d")),
                         ((0, "a", 0), (0, "b", 1), (0, "c", 3), (6, "d", 1)))
        self.assertEqual(plan_by(cases, ("d", "c", "b", "a")),
                         ((0, "b", 3), (0, "c", 1), (5, "a", 3), (6, "d", 0)))

    def test_each_member_of_the_team_counts(self):
        cases = (("a", 10, 10, ("ann",), (0,), 0), ("b", 20, 20, ("bo",), (1,), 0),
                 ("c", 1, 1, ("ann", "bo"), (2, 3), 0))
        self.assertEqual(plan_by(cases, ("a", "b", "c"))[2], (20, "c", 2))
        self.assertEqual(plan_by(cases, ("a", "c", "b")), ((0, "a", 0), (10, "c", 2), (11, "b", 1)))

    def test_against_a_search(self):
        chance = random.Random(31)
        for many in list(range(9)) * 8:
            cases = random_cases(chance, many, rooms=chance.randint(1, 4))
            order = tuple(chance.sample([case[0] for case in cases], many))
            plan = plan_by(cases, order)
            self.assertEqual(plan, slow_plan(cases, order))
            self.assertEqual(plan_by(order=order, cases=cases), plan)

    def test_each_is_a_plan_and_smooth(self):
        chance = random.Random(32)
        for many in list(range(9)) * 6:
            cases = random_cases(chance, many, longest=200, rooms=chance.randint(1, 4))
            plan = plan_by(cases, tuple(chance.sample([case[0] for case in cases], many)))
            self.assertIs(is_plan(cases, plan), True)
            self.assertIs(is_smooth(cases, plan), True)
            self.assertEqual(sorted(row[1] for row in plan), [case[0] for case in cases])
            self.assertIs(type(plan), tuple)

    def test_the_latest_start_of_all(self):
        cases = tuple([(name, 200, 400, (), (0,), 600) for name in "abcdefgh"])
        plan = plan_by(cases, tuple("hgfedcba"))
        self.assertEqual(plan[7], (2000, "a", 0))
        self.assertIs(is_plan(cases, plan), True)

    def test_of_none(self):
        self.assertEqual(plan_by((), ()), ())


class BestPlans(unittest.TestCase):
    def test_of_no_cases(self):
        for many in range(9):
            self.assertEqual(best_plan((), many), (0, (), ()))

    def test_against_a_search_over_all_orders(self):
        chance = random.Random(33)
        for size, times in ((1, 4), (2, 8), (3, 12), (4, 10), (5, 5), (6, 2)):
            for _ in range(times):
                cases = random_cases(chance, size, rooms=chance.randint(1, 3))
                for many in (0, 1, 3, 8):
                    told = best_plan(cases, many)
                    self.assertEqual(told, slow_best(cases, many))
                    self.assertEqual(best_plan(many=many, cases=cases), told)

    def test_the_count_changes_the_best_order(self):
        # Behind c, h ends at 19 by its usual time, but at 30 where it runs over; a ends at 28 then.
        cases = (("a", 10, 17, (), (0,), 11), ("c", 9, 14, ("eve",), (0, 1), 9), ("h", 1, 12, ("ann",), (1,), 4))
        self.assertEqual(best_plan(cases, 0), (21, ("a", "c", "h"), ((9, "c", 1), (11, "a", 0), (18, "h", 1))))
        self.assertEqual(best_plan(cases, 1), (28, ("a", "h", "c"), ((4, "h", 1), (9, "c", 1), (11, "a", 0))))

    def test_of_several_orders_the_first(self):
        cases = tuple([(name, 10, 20, (), (at,), 0) for at, name in enumerate("abc")])
        self.assertEqual(best_plan(cases, 1), (20, ("a", "b", "c"), ((0, "a", 0), (0, "b", 1), (0, "c", 2))))
        # The last name has to be put ahead: of the orders that do, the first.
        cases = (("a", 10, 10, (), (0,), 0), ("b", 10, 10, (), (0,), 30), ("c", 10, 10, (), (1,), 0))
        self.assertEqual(best_plan(cases, 2)[:2], (40, ("a", "b", "c")))
        cases = (("a", 10, 10, (), (0,), 30), ("b", 10, 10, (), (0,), 0), ("c", 10, 10, (), (1,), 0))
        self.assertEqual(best_plan(cases, 2)[:2], (40, ("b", "a", "c")))

    def test_the_end_is_the_latest_of_the_plan(self):
        for cases, _ in samples(34, 20, fewest=1, most=5):
            for many in (0, 2):
                end, order, plan = best_plan(cases, many)
                self.assertEqual(end, max(row[2] for row in latest(cases, plan, many)))
                self.assertEqual(plan_by(cases, order), plan)

    def test_no_order_is_better(self):
        for cases, _ in samples(35, 10, fewest=2, most=5):
            for many in (0, 1, 2):
                end = best_plan(cases, many)[0]
                for order in itertools.permutations([case[0] for case in cases]):
                    ends = [row[2] for row in latest(cases, plan_by(cases, order), many)]
                    self.assertGreaterEqual(max(ends), end)

    def test_too_many(self):
        chance = random.Random(36)
        for size in (7, 8):
            for many in (0, 1, 8):
                with self.assertRaises(TooMany):
                    best_plan(random_cases(chance, size), many)
        self.assertEqual(len(best_plan(random_cases(chance, 6), 1)[1]), 6)

    def test_kinds(self):
        told = best_plan(CASES, 1)
        self.assertEqual([type(part) for part in told], [int, tuple, tuple])


class CalledOff(unittest.TestCase):
    def test_none_needed_and_all_needed(self):
        # By one that runs over the last end is 170, of knee, and jaw ends at 140.
        self.assertEqual(called_off(CASES, PLAN, 1, 170), ())
        self.assertEqual(called_off(CASES, PLAN, 1, 4000), ())
        self.assertEqual(called_off(CASES, PLAN, 1, 29), ("eye", "hip", "jaw", "knee"))
        self.assertEqual(called_off(CASES, PLAN, 1, 0), ("eye", "hip", "jaw", "knee"))
        self.assertEqual(called_off(CASES, PLAN, 1, 30), ("hip", "jaw", "knee"))
        for minute in (0, 5, 4000):
            self.assertEqual(called_off(CASES, (), 1, minute), ())
            self.assertEqual(called_off((), (), 8, minute), ())

    def test_by_hand(self):
        self.assertEqual(called_off(CASES, PLAN, 1, 169), ("hip",))
        self.assertEqual(called_off(CASES, PLAN, 1, 160), ("hip",))
        self.assertEqual(called_off(CASES, PLAN, 1, 159), ("knee",))
        self.assertEqual(called_off(CASES, PLAN, 1, 139), ("jaw", "knee"))
        self.assertEqual(called_off(minute=139, many=1, plan=PLAN, cases=CASES), ("jaw", "knee"))

    def test_of_several_the_first(self):
        cases = tuple([(name, 10, 20, (), (0,), 0) for name in "abcd"])
        plan = ((0, "c", 0), (0, "d", 0), (1, "a", 0), (1, "b", 0))
        self.assertEqual(called_off(cases, plan, 0, 40), ())
        self.assertEqual(called_off(cases, plan, 0, 39), ("a",))
        self.assertEqual(called_off(cases, plan, 0, 29), ("a", "b"))
        self.assertEqual(called_off(cases, plan, 1, 29), ("a", "b", "c"))
        self.assertEqual(called_off(cases, plan, 1, 19), ("a", "b", "c", "d"))

    def test_starts_stay_as_they_are(self):
        cases = (("a", 10, 10, (), (0,), 0), ("b", 10, 10, (), (0,), 0))
        plan = ((0, "a", 0), (50, "b", 0))
        self.assertEqual(called_off(cases, plan, 0, 59), ("b",))

    def test_against_a_search_over_all_lots_of_names(self):
        chance = random.Random(37)
        for cases, plan in samples(37, 25, most=6):
            for many in (0, 1, 8):
                for minute in [0, 4000] + [chance.randint(0, 200) for _ in range(4)]:
                    told = called_off(cases, plan, many, minute)
                    self.assertEqual(told, slow_called_off(cases, plan, many, minute))
                    self.assertIs(type(told), tuple)

    def test_eight_cases(self):
        for cases, plan in samples(38, 3, fewest=8):
            for minute in (60, 90):
                self.assertEqual(called_off(cases, plan, 2, minute), slow_called_off(cases, plan, 2, minute))

    def test_beyond_the_minutes_raises_nothing(self):
        self.assertEqual(called_off(CASES, PLAN, 1, -1), ("eye", "hip", "jaw", "knee"))
        self.assertEqual(called_off(CASES, PLAN, 1, 5000), ())


class Untouched(unittest.TestCase):
    def test_what_is_handed_in_is_as_it_was_and_the_same_asked_again(self):
        before = copy.deepcopy((CASES, PLAN))
        order = ("toe", "eye", "hip", "jaw", "knee")
        for ask in (lambda: best_plan(CASES, 1), lambda: called_off(CASES, PLAN, 1, 100),
                    lambda: plan_by(CASES, order)):
            self.assertEqual(ask(), ask())
        self.assertEqual((CASES, PLAN), before)
