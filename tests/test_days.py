"""Points 12 and 13: the making of a day, ends, minutes and states."""

import random
import unittest

from roomsday.days import Day
from roomsday.errors import NoCase, NoCases, NoCount, NoHouse, NoMinutes, NoPlan, NotNow
from tests.samples import CASES, HOUSE, PLAN, odd_things, samples, with_part
from tests.slow_days import random_house

# In the order a, b, c, d: b leans on a by the room, c on a by ann, d on none.
FOUR = (
    ("a", 3, 5, ("ann",), (0,), 0), ("b", 2, 4, (), (0,), 0),
    ("c", 2, 2, ("ann",), (1,), 0), ("d", 1, 9, (), (2,), 0))
FOUR_HOUSE = (3, ("ann", "bo"))
FOUR_PLAN = ((0, "a", 0), (1, "b", 0), (4, "c", 1), (7, "d", 2))


def four(many=1):
    return Day(FOUR_HOUSE, FOUR, FOUR_PLAN, many=many)


def told(day):
    """All that a day tells."""
    return day.minute(), day.over(), day.plan(), day.cases(), day.states(), day.bounds(), len(day)


class Making(unittest.TestCase):
    def refused(self, error, *parts, **named):
        with self.assertRaises(error, msg=repr(parts)[:80]) as caught:
            Day(*parts, **named)
        self.assertIs(type(caught.exception), error)

    def test_no_house(self):
        for odd in odd_things() + [(), HOUSE[:1], list(HOUSE), (5, ()), (2, ["ann"]), (True, ())]:
            self.refused(NoHouse, odd, (), ())
            self.refused(NoHouse, odd, odd, odd, many=odd)

    def test_no_cases(self):
        for odd in odd_things() + [list(CASES), CASES[::-1], CASES + CASES[:1], (CASES[0][:5],)]:
            self.refused(NoCases, HOUSE, odd, ())
            self.refused(NoCases, HOUSE, odd, odd, many=None)
        self.refused(NoCases, (2, ("ann",)), CASES, PLAN)
        self.refused(NoCases, (1, HOUSE[1]), CASES, PLAN)

    def test_no_plan(self):
        for odd in odd_things() + [list(PLAN), PLAN[::-1], PLAN + PLAN[:1], ((10, "eye", 2),)]:
            self.refused(NoPlan, HOUSE, CASES, odd)
            self.refused(NoPlan, HOUSE, CASES, odd, many=None)
        self.refused(NoPlan, HOUSE, (), PLAN)
        self.refused(NoPlan, HOUSE, CASES, with_part(PLAN, 1, (29, "hip", 0)))

    def test_no_count(self):
        for odd in [one for one in odd_things() if repr(one) not in ("0", "1", "7")] + [9, -1, 1.0]:
            self.refused(NoCount, HOUSE, CASES, PLAN, many=odd)
        for many in range(9):
            self.assertEqual(Day(HOUSE, CASES, PLAN, many=many).minute(), 0)

    def test_many_is_one_where_it_is_not_told(self):
        self.assertEqual(Day(HOUSE, CASES, PLAN), Day(HOUSE, CASES, PLAN, many=1))
        self.assertEqual(Day(HOUSE, CASES, PLAN).bounds(), Day(many=1, plan=PLAN, cases=CASES, house=HOUSE).bounds())
        self.assertNotEqual(Day(HOUSE, CASES, PLAN), Day(HOUSE, CASES, PLAN, many=0))
        with self.assertRaises(TypeError):
            Day(HOUSE, CASES, PLAN, 1)

    def test_what_begins_at_minute_0(self):
        cases = (("a", 3, 5, (), (0,), 0), ("b", 2, 4, (), (0,), 0), ("c", 2, 2, (), (1,), 0), ("d", 2, 2, (), (2,), 1))
        day = Day(FOUR_HOUSE, cases, ((0, "a", 0), (0, "b", 0), (0, "c", 1), (1, "d", 2)))
        self.assertEqual(day.minute(), 0)
        self.assertEqual(day.states(), [
            ("a", "goes", 0, None), ("b", "waits", None, None), ("c", "goes", 0, None), ("d", "waits", None, None)])

    def test_a_day_of_none(self):
        for cases in ((), CASES):
            day = Day(HOUSE, cases, ())
            day.pass_by(1000)
            self.assertEqual(told(day), (1000, 0, [], (), [], [], 0))

    def test_order_and_cases_are_those_of_the_plan(self):
        day = Day(HOUSE, CASES, PLAN)
        self.assertEqual(day.plan(), list(PLAN))
        self.assertEqual(day.cases(), CASES[:4])
        self.assertEqual([row[0] for row in day.states()], ["eye", "hip", "jaw", "knee"])
        turned = Day(HOUSE, CASES, ((0, "toe", 0), (3, "eye", 1)))
        self.assertEqual(turned.plan(), [(0, "toe", 0), (3, "eye", 1)])
        self.assertEqual(turned.cases(), (CASES[0], CASES[4]))
        self.assertIs(type(turned.cases()), tuple)


class Ends(unittest.TestCase):
    def test_told_to_end(self):
        day = four()
        day.pass_by(2)
        self.assertIsNone(day.end("a"))
        self.assertEqual(day.states(), [
            ("a", "done", 0, 2), ("b", "goes", 2, None), ("c", "waits", None, None), ("d", "waits", None, None)])
        self.assertEqual(day.minute(), 2)

    def test_what_leaned_on_it_begins_in_the_same_minute(self):
        day = four()
        day.pass_by(4)
        day.end(name="a")
        self.assertEqual(day.states()[1:3], [("b", "goes", 4, None), ("c", "goes", 4, None)])

    def test_not_ahead_of_its_start_nor_of_another_on_which_it_leans(self):
        cases = (("a", 9, 9, ("ann",), (0,), 0), ("b", 9, 9, ("bo",), (1,), 0), ("c", 9, 9, ("ann", "bo"), (2,), 0))
        day = Day(FOUR_HOUSE, cases, ((0, "a", 0), (0, "b", 1), (3, "c", 2)))
        day.pass_by()
        day.end("a")
        day.pass_by(3)
        self.assertEqual(day.states()[2], ("c", "waits", None, None))
        day.end("b")
        self.assertEqual(day.states()[2], ("c", "goes", 4, None))

    def test_no_case(self):
        day = Day(HOUSE, CASES, PLAN)
        day.pass_by(11)
        before = told(day)
        for name in [one for one in odd_things() if one != "hip"] + ["toe", "Eye", "eye ", ("eye",), ["eye"], [["eye"]]]:
            with self.assertRaises(NoCase) as caught:
                day.end(name)
            self.assertEqual(repr(caught.exception.name), repr(name))
        self.assertEqual(told(day), before)

    def test_not_now(self):
        day = four()
        for name in ("a", "b", "c"):
            with self.assertRaises(NotNow) as caught:
                day.end(name)
            self.assertEqual(caught.exception.name, name)
        self.assertEqual(told(day), told(four()))
        day.pass_by()
        day.end("a")
        before = told(day)
        # a is done, b began in this very minute, c waits.
        self.assertEqual([row[1] for row in day.states()], ["done", "goes", "waits", "waits"])
        for name in ("a", "b", "c"):
            with self.assertRaises(NotNow):
                day.end(name)
        self.assertEqual(told(day), before)
        day.pass_by()
        day.end("b")

    def test_by_itself_at_its_longest_time(self):
        day = four()
        day.pass_by(4)
        self.assertEqual(day.states()[0], ("a", "over", 0, None))
        day.pass_by()
        self.assertEqual(day.states(), [
            ("a", "done", 0, 5), ("b", "goes", 5, None), ("c", "goes", 5, None), ("d", "waits", None, None)])
        with self.assertRaises(NotNow):
            day.end("a")
        day.pass_by(2)
        self.assertEqual(day.states()[2:], [("c", "done", 5, 7), ("d", "goes", 7, None)])

    def test_a_chain_within_many_minutes(self):
        cases = tuple([(name, 1, 1, (), (0,), 0) for name in "abcd"])
        day = Day(FOUR_HOUSE, cases, tuple([(0, name, 0) for name in "abcd"]))
        day.pass_by(3)
        self.assertEqual(day.states(), [
            ("a", "done", 0, 1), ("b", "done", 1, 2), ("c", "done", 2, 3), ("d", "goes", 3, None)])


class Minutes(unittest.TestCase):
    def test_no_minutes(self):
        day = four()
        for minutes in (0, -1, 1001, 10 ** 39, -(10 ** 39), -1000):
            with self.assertRaises(NoMinutes):
                day.pass_by(minutes)
            with self.assertRaises(NoMinutes):
                day.pass_by(minutes=minutes)
        self.assertEqual(told(day), told(four()))
        self.assertEqual(day, four())

    def test_one_is_meant_where_none_are_told(self):
        day = four()
        self.assertIsNone(day.pass_by())
        self.assertEqual(day.minute(), 1)
        day.pass_by(1)
        day.pass_by(minutes=1000)
        self.assertEqual(day.minute(), 1002)

    def test_a_thousand_at_once_are_as_a_thousand_times_one(self):
        for cases, plan in samples(41, 8, rooms=3):
            for many in (0, 8):
                at_once = Day(random_house(3), cases, plan, many=many)
                one_by_one = Day(random_house(3), cases, plan, many=many)
                at_once.pass_by(1000)
                for _ in range(1000):
                    one_by_one.pass_by()
                self.assertEqual(told(at_once), told(one_by_one))
                self.assertEqual(at_once, one_by_one)

    def test_any_pieces_come_to_the_same(self):
        chance = random.Random(42)
        for cases, plan in samples(42, 30, rooms=3):
            minutes = chance.randint(2, 120)
            cut = chance.randint(1, minutes - 1)
            at_once, pieces, single = [Day(random_house(3), cases, plan, many=8) for _ in range(3)]
            at_once.pass_by(minutes)
            pieces.pass_by(cut)
            pieces.pass_by(minutes - cut)
            for _ in range(minutes):
                single.pass_by(1)
            self.assertEqual(told(at_once), told(single))
            self.assertEqual(told(pieces), told(single))

    def test_a_day_on_which_nobody_tells_anything_takes_the_longest_times(self):
        day = Day(HOUSE, CASES, PLAN)
        day.pass_by(1000)
        self.assertEqual(day.states(), [
            ("eye", "done", 10, 30), ("hip", "done", 30, 120), ("jaw", "done", 40, 140), ("knee", "done", 120, 190)])
        self.assertEqual(day.over(), 3)


class States(unittest.TestCase):
    def test_over_behind_the_usual_time_and_not_at_it(self):
        day = four()
        day.pass_by(3)
        self.assertEqual((day.states()[0], day.over()), (("a", "goes", 0, None), 0))
        day.pass_by()
        self.assertEqual((day.states()[0], day.over()), (("a", "over", 0, None), 1))
        day.end("a")
        self.assertEqual((day.states()[0], day.over()), (("a", "done", 0, 4), 1))

    def test_done_ones_count_where_they_ran_over_only(self):
        day = four(8)
        day.pass_by(3)
        day.end("a")
        self.assertEqual(day.over(), 0)
        day.pass_by(997)
        # b ran over from 3 to 7, c took its longest time, which is its usual one, d ran over.
        self.assertEqual(day.states(), [
            ("a", "done", 0, 3), ("b", "done", 3, 7), ("c", "done", 4, 6), ("d", "done", 7, 16)])
        self.assertEqual(day.over(), 2)

    def test_no_over_where_usual_is_longest(self):
        day = Day(FOUR_HOUSE, (("c", 2, 2, (), (1,), 0),), ((0, "c", 1),))
        day.pass_by(2)
        self.assertEqual((day.states(), day.over()), ([("c", "done", 0, 2)], 0))

    def test_kinds(self):
        day = four()
        day.pass_by(4)
        self.assertIs(type(day.states()), list)
        self.assertIs(type(day.plan()), list)
        for row in day.states() + day.plan():
            self.assertIs(type(row), tuple)
        self.assertIs(type(day.minute()), int)
        self.assertIs(type(day.over()), int)


class TheAskersOwn(unittest.TestCase):
    def test_lists_that_were_changed_change_nothing(self):
        day = four()
        day.pass_by(2)
        before = told(day)
        for ask in (day.plan, day.states, day.bounds):
            first, second = ask(), ask()
            self.assertEqual(first, second)
            first.append("x")
            first[0] = None
            self.assertEqual(ask(), second)
            self.assertIsNot(ask(), ask())
        self.assertEqual(told(day), before)

    def test_lists_told_earlier_stay_as_they_were(self):
        day = four()
        plan, states, bounds = day.plan(), day.states(), day.bounds()
        kept = list(plan), list(states), list(bounds)
        day.pass_by(5)
        day.off("d")
        day.urgent(("u", 1, 2, (), (2,), 0))
        self.assertEqual((plan, states, bounds), kept)

    def test_asking_does_nothing(self):
        day = four()
        day.pass_by(4)
        before = told(day)
        for _ in range(3):
            self.assertEqual(told(day), before)
        day.back()
        self.assertEqual(told(day), told(four()))
