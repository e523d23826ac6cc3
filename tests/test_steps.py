"""Point 16: calling off, taking back, lots, equality, length, and the field busy."""

import copy
import random
import unittest

from roomsday.days import Day
from roomsday.errors import Crowded, DayError, NoCase, NoCases, NoLot, NoMinutes, NothingLeft, NotNow, TooMany
from tests.samples import CASES, HOUSE, PLAN, odd_things, samples
from tests.slow_days import do, random_deed, random_house
from tests.test_days import FOUR, FOUR_HOUSE, FOUR_PLAN, four, told

U = ("u", 1, 2, (), (2,), 0)


class CallingOff(unittest.TestCase):
    def test_it_is_left_out_and_what_leaned_on_it_may_begin(self):
        cases = tuple([(name, 9, 9, ("ann",), (0,), 0) for name in "abc"])
        day = Day((1, ("ann",)), cases, ((0, "a", 0), (1, "b", 0), (2, "c", 0)))
        day.pass_by(3)
        day.end("a")
        self.assertEqual([row[1] for row in day.states()], ["done", "goes", "waits"])
        day.back()
        self.assertIsNone(day.off("b"))
        self.assertEqual(day.plan(), [(0, "a", 0), (2, "c", 0)])
        self.assertEqual(day.cases(), (cases[0], cases[2]))
        self.assertEqual(day.states(), [("a", "goes", 0, None), ("c", "waits", None, None)])
        self.assertEqual(day.bounds(), [("a", 0, 0, 3, 9), ("c", 3, 9, 4, 18)])
        day.end("a")
        self.assertEqual(day.states()[1], ("c", "goes", 3, None))

    def test_what_leaned_on_it_alone_begins_at_once(self):
        day = Day((1, ()), (("a", 9, 9, (), (0,), 0), ("b", 9, 9, (), (0,), 0)), ((0, "b", 0), (1, "a", 0)))
        day.urgent(("u", 5, 9, (), (0,), 40))
        day.pass_by(10)
        self.assertEqual(day.states(), [("b", "done", 0, 9), ("u", "waits", None, None), ("a", "waits", None, None)])
        day.off(name="u")
        self.assertEqual(day.states(), [("b", "done", 0, 9), ("a", "goes", 10, None)])

    def test_no_case(self):
        day = Day(HOUSE, CASES, PLAN)
        before = told(day)
        for name in [one for one in odd_things() if one != "hip"] + ["toe", "u", " hip", ("hip",), ["hip"]]:
            with self.assertRaises(NoCase) as caught:
                day.off(name)
            self.assertEqual(repr(caught.exception.name), repr(name))
        day.off("knee")
        with self.assertRaises(NoCase):
            day.off("knee")
        day.back()
        self.assertEqual(told(day), before)

    def test_not_now(self):
        day = four()
        day.pass_by(4)
        day.end("a")
        before = told(day)
        for name in ("a", "b", "c"):
            with self.assertRaises(NotNow) as caught:
                day.off(name)
            self.assertEqual(caught.exception.name, name)
        self.assertEqual(told(day), before)
        day.off("d")

    def test_a_case_that_runs_over_does_not_wait(self):
        day = four()
        day.pass_by(4)
        self.assertEqual(day.states()[0][1], "over")
        with self.assertRaises(NotNow):
            day.off("a")

    def test_its_name_is_free_again(self):
        day = four()
        day.off("d")
        self.assertEqual(day.urgent(FOUR[3]), 2)
        self.assertEqual(day.cases(), FOUR)
        self.assertEqual(day.plan(), [(0, "a", 0), (0, "d", 2), (1, "b", 0), (4, "c", 1)])


class TakingBack(unittest.TestCase):
    def test_nothing_left(self):
        day = four()
        for _ in range(2):
            with self.assertRaises(NothingLeft):
                day.back()
        self.assertEqual(told(day), told(four()))
        day.pass_by(3)
        self.assertIsNone(day.back())
        with self.assertRaises(NothingLeft):
            day.back()

    def test_each_deed_is_one_step(self):
        day = four()
        deeds = (("pass", 2), ("end", "a"), ("urgent", U, 30), ("off", "d"), ("pass", 1000))
        stood = [told(day)]
        for deed in deeds:
            do(day, deed)
            stood.append(told(day))
        day.lot([("pass", 1), ("pass", 2)])
        self.assertEqual(day.minute(), 1005)
        for before in reversed(stood):
            day.back()
            self.assertEqual(told(day), before)
        with self.assertRaises(NothingLeft):
            day.back()

    def test_what_is_refused_is_no_step(self):
        day = four()
        day.pass_by(2)
        for refused in (lambda: day.end("x"), lambda: day.off("a"), lambda: day.pass_by(0), lambda: day.lot([]),
                        lambda: day.urgent(None), lambda: day.lot([("pass", 1), ("end", "c")])):
            with self.assertRaises(DayError):
                refused()
        day.back()
        self.assertEqual(told(day), told(four()))
        with self.assertRaises(NothingLeft):
            day.back()

    def test_to_the_very_first_over_any_deeds(self):
        chance = random.Random(71)
        for cases, plan in samples(71, 25, longest=9, rooms=3):
            day = Day(random_house(3), cases, plan, many=chance.randint(0, 3))
            stood = []
            for _ in range(30):
                before = told(day)
                deeds = [random_deed(chance, day, 9, 3) for _ in range(chance.choice((1, 1, 2, 3)))]
                try:
                    if len(deeds) == 1:
                        do(day, deeds[0])
                    else:
                        day.lot(deeds)
                    stood.append(before)
                except DayError:
                    self.assertEqual(told(day), before)
            for before in reversed(stood):
                day.back()
                self.assertEqual(told(day), before)
            with self.assertRaises(NothingLeft):
                day.back()

    def test_what_was_taken_back_was_never_done(self):
        one, other = four(), four()
        one.pass_by(2)
        one.end("a")
        one.back()
        one.urgent(U)
        other.pass_by(2)
        other.urgent(U)
        self.assertEqual(told(one), told(other))
        for day in (one, other):
            day.pass_by(3)
            day.back()
            day.back()
            self.assertEqual(day.minute(), 2)
            day.back()
            with self.assertRaises(NothingLeft):
                day.back()


class Lots(unittest.TestCase):
    def refused(self, error, day, deeds):
        before = told(day)
        with self.assertRaises(error, msg=repr(deeds)[:80]) as caught:
            day.lot(deeds)
        self.assertIs(type(caught.exception), error)
        self.assertEqual(told(day), before)
        self.assertIs(day.busy, False)
        return caught.exception

    def test_what_each_deed_tells(self):
        day = four()
        deeds = [("pass", 2), ("end", "a"), ("urgent", U, 5), ("off", "d"), ("pass", 1)]
        self.assertEqual(day.lot(deeds), [None, None, 2, None, None])
        other = four()
        for deed in deeds:
            do(other, deed)
        self.assertEqual(told(day), told(other))
        day.back()
        self.assertEqual(told(day), told(four()))
        with self.assertRaises(NothingLeft):
            day.back()
        self.assertIs(type(day.lot(deeds=deeds)), list)

    def test_how_many(self):
        for many in (1, 2, 19, 20):
            day = four()
            self.assertEqual(day.lot([("pass", 1)] * many), [None] * many)
            self.assertEqual(day.minute(), many)
            day.back()
            self.assertEqual(day.minute(), 0)
        for many in (0, 21, 22, 400):
            self.refused(NoLot, four(), [("pass", 1)] * many)

    def test_no_lot(self):
        day = four()
        day.pass_by(2)
        for odd in odd_things() + [(), (("pass", 1),), ("pass", 1), "pass"]:
            self.refused(NoLot, day, odd)
        for odd in odd_things() + [(), ["pass", 1], "passes"]:
            self.refused(NoLot, day, [odd])
            self.refused(NoLot, day, [("pass", 1), odd])
            self.refused(NoLot, day, [odd, ("pass", 1)])
            self.refused(NoLot, day, [(odd, 1)])
            self.refused(NoLot, day, [(odd, 1, 2)])

    def test_words(self):
        for word in ("End", "pass_by", "back", "lot", "minute", "", "end ", "ends", "wait", None, 0, ("end",), ["end"]):
            self.refused(NoLot, four(), [(word, "a")])
            self.refused(NoLot, four(), [("pass", 1), (word, "a")])

    def test_counts(self):
        for deed in (("end",), ("end", "a", "b"), ("pass",), ("pass", 1, 1), ("off",), ("off", "d", "c"),
                     ("urgent",), ("urgent", U), ("urgent", U, 5, 5), ("urgent", *U)):
            self.refused(NoLot, four(), [deed])
            self.refused(NoLot, four(), [("pass", 1), deed])

    def test_refused_as_the_first_that_is(self):
        self.assertEqual(self.refused(NoCase, four(), [("pass", 1), ("end", "x"), ("pass", 0)]).name, "x")
        self.assertEqual(self.refused(NotNow, four(), [("pass", 1), ("end", "b"), ("end", "x")]).name, "b")
        self.refused(NoMinutes, four(), [("pass", 1), ("pass", 0), ("end", "x")])
        self.refused(NoMinutes, four(), [("pass", 1), ("urgent", U, 1001)])
        self.refused(NoCases, four(), [("pass", 1), ("urgent", None, None)])
        self.refused(Crowded, four(), [("pass", 4), ("urgent", ("u", 1, 1, (), (0,), 0), 0)])
        five = [("urgent", (name, 1, 2, (), (2,), 0), 1000) for name in "uvwxy"]
        self.refused(TooMany, four(), five)
        self.assertEqual(four().lot(five[:4]), [2, 2, 2, 2])
        # Words and counts are looked at ahead of all deeds.
        self.refused(NoLot, four(), [("end", "x"), ("pass",)])

    def test_things_of_any_kind_behind_the_words(self):
        for odd in odd_things():
            if odd != "a":
                error = self.refused(NoCase, four(), [("pass", 1), ("end", odd)])
                self.assertEqual(repr(error.name), repr(odd))
            if repr(odd) not in ("1", "7"):
                self.refused(NoMinutes, four(), [("pass", odd)])
            self.refused(NoCases, four(), [("pass", 1), ("urgent", odd, odd)])

    def test_refused_at_any_place(self):
        good = [("pass", 2), ("end", "a"), ("urgent", U, 5), ("off", "d"), ("pass", 1)]
        for at in range(len(good) + 1):
            for bad, error in ((("end", "x"), NoCase), (("pass", 0), NoMinutes), (("off", "a"), NotNow)):
                self.refused(error, four(), good[:at] + [bad] + good[at:])

    def test_a_later_deed_sees_what_the_earlier_ones_did(self):
        self.refused(NotNow, four(), [("pass", 2), ("end", "a"), ("end", "b")])
        day = four()
        day.lot([("pass", 2), ("end", "a"), ("pass", 1), ("end", "b")])
        self.assertEqual(day.states()[:2], [("a", "done", 0, 2), ("b", "done", 2, 3)])

    def test_what_is_handed_in_is_as_it_was_and_not_kept(self):
        deeds = [("pass", 2), ("end", "a"), ("urgent", U, 5)]
        kept = copy.deepcopy(deeds)
        day = four()
        answers = day.lot(deeds)
        self.assertEqual(deeds, kept)
        before = told(day)
        deeds.clear()
        answers.clear()
        self.assertEqual(told(day), before)
        name = ["x", ["y"]]
        error = self.refused(NoCase, day, [("end", name)])
        name[1].append("z")
        self.assertEqual(error.name, ["x", ["y"]])


class Equality(unittest.TestCase):
    def test_other_deeds_that_come_to_the_same(self):
        one, other = four(), four()
        self.assertTrue(one == other)
        self.assertFalse(one != other)
        one.pass_by(3)
        self.assertFalse(one == other)
        self.assertTrue(one != other)
        other.lot([("pass", 1), ("pass", 2)])
        self.assertTrue(one == other)
        one.off("d")
        one.back()
        self.assertTrue(one == other)
        one.end("a")
        other.back()
        other.pass_by(3)
        self.assertFalse(one == other)
        other.end("a")
        self.assertTrue(one == other)

    def test_each_thing_that_is_told_counts(self):
        plain = four()
        self.assertNotEqual(plain, Day((4, FOUR_HOUSE[1]), FOUR, FOUR_PLAN))
        self.assertNotEqual(plain, Day((3, ("ann",)), FOUR, FOUR_PLAN))
        self.assertNotEqual(plain, four(2))
        for at, part in ((1, 2), (2, 6), (3, ("ann", "bo")), (4, (0, 1))):
            cases = (FOUR[0][:at] + (part,) + FOUR[0][at + 1:],) + FOUR[1:]
            self.assertNotEqual(plain, Day(FOUR_HOUSE, cases, FOUR_PLAN))
        self.assertNotEqual(plain, Day(FOUR_HOUSE, FOUR, FOUR_PLAN[:3]))
        self.assertNotEqual(plain, Day(FOUR_HOUSE, FOUR, FOUR_PLAN[:3] + ((8, "d", 2),)))

    def test_cases_left_out_of_the_plan_do_not_count(self):
        self.assertEqual(Day(FOUR_HOUSE, FOUR[:3], FOUR_PLAN[:3]), Day(FOUR_HOUSE, FOUR, FOUR_PLAN[:3]))
        day = four()
        day.off("d")
        self.assertEqual(day, Day(FOUR_HOUSE, FOUR, FOUR_PLAN[:3]))

    def test_days_that_have_seen_other_ends(self):
        one, other = four(), four()
        for day, minutes in ((one, 2), (other, 3)):
            day.pass_by(minutes)
            day.end("a")
            day.pass_by(1000 - minutes)
        self.assertEqual(one.minute(), other.minute())
        self.assertNotEqual(one, other)

    def test_other_things(self):
        for odd in odd_things() + [(), FOUR_HOUSE, FOUR, object(), Day]:
            self.assertIs(four() == odd, False)
            self.assertIs(four() != odd, True)
            self.assertIs(odd == four(), False)

    def test_asked_again_and_with_itself(self):
        day = four()
        self.assertIs(day == day, True)
        self.assertIs(day == four(), True)


class LengthAndBusy(unittest.TestCase):
    def test_how_many_are_not_done(self):
        day = four()
        self.assertEqual(len(day), 4)
        day.pass_by(2)
        self.assertEqual(len(day), 4)
        day.end("a")
        self.assertEqual(len(day), 3)
        day.off("d")
        self.assertEqual(len(day), 2)
        day.urgent(U)
        self.assertEqual(len(day), 3)
        day.pass_by(1000)
        self.assertEqual(len(day), 0)
        day.back()
        self.assertEqual(len(day), 3)
        self.assertEqual(len(Day(HOUSE, CASES, ())), 0)

    def test_busy_is_false_between_calls(self):
        day = four()
        self.assertIs(day.busy, False)
        for deed in (lambda: day.pass_by(2), lambda: day.end("a"), lambda: day.urgent(U), lambda: day.off("d"),
                     lambda: day.lot([("pass", 1), ("pass", 1)]), day.back, day.minute, day.over, day.plan,
                     day.cases, day.states, day.bounds):
            deed()
            self.assertIs(day.busy, False)

    def test_busy_is_false_behind_refusals_too(self):
        day = four()
        for refused in (lambda: day.pass_by(0), lambda: day.end("x"), lambda: day.end("b"), lambda: day.off("a"),
                        lambda: day.off(None), lambda: day.urgent(None), lambda: day.urgent(U, within=-1),
                        lambda: day.lot(None), lambda: day.lot([("pass", 1), ("pass", 0)]), day.back):
            with self.assertRaises(DayError):
                refused()
            self.assertIs(day.busy, False)
