"""Points 2 and 3 over the whole program."""

import copy
import random
import unittest

from roomsday.days import Day
from roomsday.desk import Desk
from roomsday.errors import DayError
from roomsday.makers import best_plan, called_off, plan_by
from roomsday.plans import told_day
from roomsday.texts import cases_text, house_text, plan_text
from roomsday.worst import latest
from tests.samples import CASES, HOUSE, PLAN, case_named, samples
from tests.slow_days import SlowDay, do, random_deed, random_house
from tests.test_days import four, told


def wild_days(seed, count, most=8, longest=9, deeds=40):
    """Days behind random deeds, told after each one that was done."""
    chance = random.Random(seed)
    for cases, plan in samples(seed, count, most=most, longest=longest, rooms=3):
        day = Day(random_house(3), cases, plan, many=chance.randint(0, 3))
        yield day
        for _ in range(deeds):
            try:
                if chance.random() < 0.1:
                    day.back()
                else:
                    do(day, random_deed(chance, day, longest, 3))
            except DayError:
                continue
            yield day


class Rooms(unittest.TestCase):
    def test_nobody_is_in_two_rooms_at_once_and_no_room_has_two_cases(self):
        seen = 0
        for day in wild_days(101, 60):
            rooms = {name: room for _, name, room in day.plan()}
            teams = {case[0]: set(case[3]) for case in day.cases()}
            times = [(begin, day.minute() if end is None else end, end is None, name)
                     for name, _, begin, end in day.states() if begin is not None]
            for at, (begin, end, goes, name) in enumerate(times):
                for other_begin, other_end, other_goes, other in times[:at]:
                    if rooms[name] == rooms[other] or teams[name] & teams[other]:
                        self.assertFalse(goes and other_goes)
                        self.assertTrue(end <= other_begin or other_end <= begin)
                        seen += 1
        self.assertGreater(seen, 500)

    def test_each_case_in_one_of_its_places_no_earlier_than_its_start(self):
        for day in wild_days(102, 30):
            for (start, name, room), (_, _, begin, end) in zip(day.plan(), day.states()):
                case = case_named(day.cases(), name)
                self.assertIn(room, case[4])
                self.assertGreaterEqual(start, case[5])
                if begin is not None:
                    self.assertGreaterEqual(begin, start)
                if end is not None:
                    self.assertTrue(begin + 1 <= end <= begin + case[2])


class AsTheSlowDay(unittest.TestCase):
    def test_any_deeds_come_to_what_the_document_tells(self):
        chance = random.Random(103)
        done = {}
        for cases, plan in samples(103, 80, most=3, longest=4, rooms=2):
            plan = tuple(sorted([(min(row[0], 8), *row[1:]) for row in plan]))
            cases = tuple([(*case[:2], min(case[2], case[1] + 1), *case[3:5], 0) for case in cases])
            many = chance.choice((0, 1, 2))
            day, slow = Day(random_house(2), cases, plan, many=many), SlowDay(cases, plan, many)
            for _ in range(8):
                deed = ("pass", 1) if chance.random() < 0.3 else random_deed(chance, day, 4, 2)
                if deed[0] == "urgent" and len(day) > 3:
                    continue
                try:
                    answer = do(slow, deed)
                except DayError as error:
                    with self.assertRaises(type(error)):
                        do(day, deed)
                else:
                    self.assertEqual(do(day, deed), answer)
                    done[deed[0]] = done.get(deed[0], 0) + 1
                self.assertEqual(told(day)[:6], (
                    slow.now, slow.over(), slow.plan(), slow.cases(), slow.states(), slow.bounds()))
        self.assertTrue(all(done[word] > 5 for word in ("end", "pass", "off", "urgent")), done)


class ThePromise(unittest.TestCase):
    def test_a_day_told_minute_by_minute_is_the_day_of_these_minutes(self):
        chance = random.Random(104)
        for cases, plan in samples(104, 40, rooms=3):
            minutes = tuple([chance.randint(1, case_named(cases, row[1])[2]) for row in plan])
            day = Day(random_house(3), cases, plan, many=8)
            bounds = {row[0]: row[1:] for row in day.bounds()}
            while len(day):
                day.pass_by()
                for row, took in zip(day.states(), minutes):
                    if row[1] in ("goes", "over") and day.minute() == row[2] + took:
                        day.end(row[0])
            ended = [(name, begin, end) for name, state, begin, end in day.states()]
            self.assertEqual(ended, told_day(cases, plan, minutes))
            for name, begin, end in ended:
                self.assertTrue(bounds[name][0] <= begin <= bounds[name][1])
                self.assertTrue(bounds[name][2] <= end <= bounds[name][3])

    def test_more_that_run_over_make_no_bounds_earlier(self):
        for cases, plan in samples(105, 30, rooms=3):
            for many in range(8):
                fewer = Day(random_house(3), cases, plan, many=many)
                more = Day(random_house(3), cases, plan, many=many + 1)
                for day in (fewer, more):
                    day.pass_by(15)
                if fewer.bounds() is None:
                    continue
                for one, other in zip(fewer.bounds(), more.bounds()):
                    self.assertTrue(other[2] >= one[2] and other[4] >= one[4])
                    self.assertEqual((other[1], other[3]), (one[1], one[3]))

    def test_what_is_called_off_is_enough(self):
        for cases, plan in samples(106, 30):
            for many in (0, 2):
                for minute in (20, 60, 90):
                    off = called_off(cases, plan, many, minute)
                    rest = tuple([row for row in plan if row[1] not in off])
                    self.assertTrue(all(row[2] <= minute for row in latest(cases, rest, many)))
                    day = Day(random_house(2), cases, plan, many=many)
                    waiting = [row[0] for row in day.states() if row[1] == "waits"]
                    if all(name in waiting for name in off):
                        for name in off:
                            day.off(name)
                        self.assertTrue(all(row[4] <= minute for row in day.bounds()))

    def test_the_best_plan_holds_as_a_day(self):
        for cases, _ in samples(107, 15, most=5):
            end, order, plan = best_plan(cases, 1)
            day = Day(random_house(2), cases, plan)
            self.assertEqual(max([0] + [row[4] for row in day.bounds()]), end)
            self.assertEqual(plan, plan_by(cases, order))

    def test_calling_off_makes_no_latest_time_later(self):
        chance = random.Random(108)
        for cases, plan in samples(108, 30, fewest=2, rooms=3):
            day = Day(random_house(3), cases, plan, many=8)
            day.pass_by(chance.randint(1, 20))
            waiting = [row[0] for row in day.states() if row[1] == "waits"]
            if waiting:
                before = {row[0]: row for row in day.bounds()}
                day.off(chance.choice(waiting))
                for name, begin, late_begin, end, late_end in day.bounds():
                    self.assertTrue(late_begin <= before[name][2] and late_end <= before[name][4])


class Apart(unittest.TestCase):
    def test_two_days_do_not_touch_each_other(self):
        one, other = four(), four()
        before = told(other)
        one.pass_by(2)
        one.end("a")
        one.off("d")
        one.urgent(("u", 1, 2, (), (2,), 0))
        self.assertEqual(told(other), before)
        with self.assertRaises(DayError):
            other.back()
        after = told(one)
        other.pass_by(9)
        self.assertEqual(told(one), after)

    def test_two_desks_do_not_touch_each_other(self):
        texts = house_text(HOUSE), cases_text(CASES), plan_text(PLAN)
        one, other = Desk(*texts), Desk(*texts)
        rows = ("minute", "over", "states", "bounds", "plan")
        before = [other.say(row) for row in rows]
        for row in ("pass 31", "end hip", "off knee", "urgent u 1 2 - 1 0 300"):
            if row == "end hip":
                one.say("pass 1")
            one.say(row)
        self.assertEqual([other.say(row) for row in rows], before)
        with self.assertRaises(DayError):
            other.say("back")

    def test_a_copy_goes_on_for_itself(self):
        day = four()
        day.pass_by(2)
        other = copy.deepcopy(day)
        day.end("a")
        self.assertNotEqual(day, other)
        other.end("a")
        self.assertEqual(day, other)


class HandedIn(unittest.TestCase):
    def test_it_is_as_it_was(self):
        handed = [HOUSE, CASES, PLAN]
        before = copy.deepcopy(handed)
        day = Day(*handed, many=2)
        day.lot([("pass", 11), ("end", "eye"), ("off", "knee"), ("urgent", CASES[4], 1000)])
        best_plan(CASES, 2), called_off(CASES, PLAN, 2, 100)
        house_text(HOUSE), cases_text(CASES), plan_text(PLAN)
        self.assertEqual(handed, before)

    def test_the_same_again_in_another_run_of_the_same_deeds(self):
        one = [told(day) for day in wild_days(109, 8)]
        other = [told(day) for day in wild_days(109, 8)]
        self.assertEqual(one, other)

    def test_a_refusal_keeps_a_copy(self):
        day = four()
        for ask in (day.end, day.off):
            name = ["x", ("y", ["z"])]
            with self.assertRaises(DayError) as caught:
                ask(name)
            name[1][1].append("w")
            self.assertEqual(caught.exception.name, ["x", ("y", ["z"])])
