"""Point 15: what can't wait."""

import random
import unittest

from roomsday.days import Day
from roomsday.errors import AskedError, Crowded, DayError, NoCases, NoMinutes, TooMany, ToldError
from tests.samples import CASES, HOUSE, PLAN, odd_things, samples, with_part
from tests.slow_days import SlowDay, do, random_case, random_house
from tests.test_days import told

U = ("u", 5, 8, (), (0, 1), 0)


def eight():
    cases = tuple([(name, 5, 9, (), (0,), 0) for name in "abcdefgh"])
    return Day((2, ("ann",)), cases, tuple([(0, name, 0) for name in "abcdefgh"]))


class Refusals(unittest.TestCase):
    def refused(self, error, day, *handed, **named):
        before = told(day)
        with self.assertRaises(error, msg=repr(handed)[:80]) as caught:
            day.urgent(*handed, **named)
        self.assertIs(type(caught.exception), error)
        self.assertEqual(told(day), before)

    def test_no_cases(self):
        day = Day(HOUSE, CASES, PLAN)
        for odd in odd_things() + [(), U[:5], U + (0,), list(U), (U,), [U]]:
            self.refused(NoCases, day, odd)
            self.refused(NoCases, day, odd, within=odd)
        for at in range(6):
            for odd in (None, True, [], ((),), -1, 601, 10 ** 39, "%", ("eve",), (2,), ("bo", "ann")):
                self.refused(NoCases, day, with_part(U, at, odd))

    def test_a_name_of_the_days_order(self):
        day = Day(HOUSE, CASES, PLAN)
        for name in ("eye", "hip", "jaw", "knee"):
            self.refused(NoCases, day, with_part(U, 0, name))
        day.pass_by(500)
        self.refused(NoCases, day, with_part(U, 0, "eye"), within=1000)
        # toe is one of the cases, but not in the plan.
        fresh = Day(HOUSE, CASES, PLAN)
        self.assertEqual(fresh.urgent(CASES[4]), 0)
        self.refused(NoCases, fresh, CASES[4])

    def test_too_many(self):
        day = eight()
        self.refused(TooMany, day, U, within=1000)
        day.pass_by(1000)
        self.assertEqual(len(day), 0)
        self.refused(TooMany, day, U, within=1000)
        day = eight()
        day.off("h")
        self.assertEqual(day.urgent(U, within=1000), 1)
        self.refused(TooMany, day, with_part(U, 0, "v"), within=1000)

    def test_no_minutes(self):
        day = Day(HOUSE, CASES, PLAN)
        for within in [one for one in odd_things() if repr(one) not in ("0", "1", "7")] + [1001, 30.0]:
            self.refused(NoMinutes, day, U, within=within)
        for within in (0, 1000):
            self.assertEqual(Day(HOUSE, CASES, PLAN).urgent(U, within=within), 0)

    def test_crowded(self):
        cases = (("a", 20, 40, ("ann",), (0,), 0),)
        day = Day(HOUSE, cases, ((0, "a", 0),), many=1)
        other = with_part(U, 4, (0,))
        # a may go on until 40.
        self.refused(Crowded, day, other)
        self.refused(Crowded, day, other, within=39)
        by_team = with_part(with_part(U, 4, (1,)), 3, ("ann", "bo"))
        self.refused(Crowded, day, by_team, within=39)
        day.pass_by(10)
        self.refused(Crowded, day, other, within=29)
        self.assertEqual(day.urgent(other, within=30), 0)

    def test_crowded_where_no_bounds_are_told(self):
        day = Day(HOUSE, (("a", 5, 50, (), (0,), 0),), ((0, "a", 0),), many=0)
        day.pass_by(5)
        self.assertIsNotNone(day.bounds())
        day.pass_by()
        self.assertIsNone(day.bounds())
        self.refused(Crowded, day, with_part(U, 4, (1,)), within=1000)
        day.back()
        self.assertEqual(day.urgent(with_part(U, 4, (1,)), within=1000), 1)

    def test_the_one_told_first_goes_first(self):
        day = eight()
        self.refused(NoCases, day, with_part(U, 0, "a"), within=None)
        self.refused(TooMany, day, U, within=None)
        day.off("h")
        self.refused(NoMinutes, day, with_part(U, 4, (0,)), within=-1)
        self.refused(Crowded, day, with_part(U, 4, (0,)), within=0)

    def test_families(self):
        for error, family in ((NoCases, ToldError), (NoMinutes, ToldError), (TooMany, AskedError), (Crowded, AskedError)):
            self.assertTrue(issubclass(error, family))

    def test_within_is_told_by_its_name_alone(self):
        with self.assertRaises(TypeError):
            Day(HOUSE, CASES, PLAN).urgent(U, 30)
        self.assertEqual(Day(HOUSE, CASES, PLAN).urgent(within=30, case=U), 0)


class WhereItStands(unittest.TestCase):
    def test_it_may_begin_at_once(self):
        day = Day(HOUSE, CASES, PLAN)
        day.pass_by(3)
        self.assertEqual(day.urgent(U), 1)
        self.assertEqual(day.states()[0], ("u", "goes", 3, None))
        self.assertEqual(day.plan()[0], (3, "u", 1))
        self.assertEqual(day.cases(), CASES[:4] + (U,))

    def test_its_start_is_its_first_if_that_is_later(self):
        day = Day(HOUSE, CASES, PLAN)
        day.pass_by(3)
        day.urgent(with_part(U, 5, 4))
        self.assertEqual(day.plan()[0], (4, "u", 1))
        self.assertEqual(day.states()[0], ("u", "waits", None, None))
        day.pass_by()
        self.assertEqual(day.states()[0], ("u", "goes", 4, None))

    def test_within_counts_from_its_start(self):
        cases = (("a", 20, 40, (), (0,), 0),)
        for first, enough in ((0, 40), (10, 30), (39, 1), (40, 0), (90, 0)):
            case = with_part(with_part(U, 4, (0,)), 5, first)
            if enough:
                with self.assertRaises(Crowded):
                    Day(HOUSE, cases, ((0, "a", 0),)).urgent(case, within=enough - 1)
            self.assertEqual(Day(HOUSE, cases, ((0, "a", 0),)).urgent(case, within=enough), 0)

    def test_thirty_where_within_is_not_told(self):
        case = with_part(U, 4, (0,))
        for longest, fits in ((30, True), (31, False)):
            day = Day(HOUSE, (("a", 20, longest, (), (0,), 0),), ((0, "a", 0),))
            if fits:
                self.assertEqual(day.urgent(case), 0)
            else:
                with self.assertRaises(Crowded):
                    day.urgent(case)

    def test_behind_all_that_have_begun_ahead_of_all_that_wait(self):
        # b waits for a, c has begun behind it: the order is turned, who leans on whom is not.
        cases = (("a", 9, 9, (), (0,), 0), ("b", 9, 9, (), (0,), 0), ("c", 9, 9, (), (1,), 0), ("d", 9, 9, (), (1,), 0))
        plan = ((0, "a", 0), (1, "b", 0), (2, "c", 1), (3, "d", 1))
        day = Day((3, ()), cases, plan)
        day.pass_by(4)
        day.urgent(("u", 2, 3, (), (2,), 0))
        self.assertEqual([row[1] for row in day.plan()], ["a", "c", "u", "b", "d"])
        self.assertEqual(day.plan(), [(0, "a", 0), (2, "c", 1), (4, "u", 2), (1, "b", 0), (3, "d", 1)])
        self.assertEqual([row[0] for row in day.bounds()], ["a", "c", "u", "b", "d"])
        day.pass_by(5)
        day.urgent(("v", 2, 3, (), (2,), 0), within=0)
        self.assertEqual(day.states(), [
            ("a", "done", 0, 9), ("c", "goes", 2, None), ("u", "done", 4, 7), ("b", "goes", 9, None),
            ("v", "goes", 9, None), ("d", "waits", None, None)])

    def test_a_later_one_stands_ahead_of_an_earlier_one_that_waits(self):
        day = Day((1, ()), (), ())
        day.urgent(("u", 2, 3, (), (0,), 50))
        day.urgent(("v", 20, 80, (), (0,), 20), within=0)
        self.assertEqual(day.plan(), [(20, "v", 0), (50, "u", 0)])
        self.assertEqual(day.bounds(), [("v", 20, 20, 21, 100), ("u", 50, 100, 51, 102)])

    def test_what_waits_leans_on_it_by_the_room_and_by_the_team(self):
        cases = (("a", 9, 9, ("ann",), (0,), 0), ("b", 9, 9, (), (1,), 0), ("c", 9, 9, (), (2,), 0))
        day = Day((3, ("ann",)), cases, ((5, "a", 0), (5, "b", 1), (5, "c", 2)))
        self.assertEqual(day.urgent(("u", 10, 20, ("ann",), (1,), 0)), 1)
        day.pass_by(5)
        self.assertEqual([row[1] for row in day.states()], ["goes", "waits", "waits", "goes"])
        day.end("u")
        self.assertEqual([row[1] for row in day.states()], ["done", "goes", "goes", "goes"])

    def test_it_leans_on_what_goes(self):
        cases = (("a", 4, 9, ("ann",), (0,), 0),)
        day = Day((2, ("ann",)), cases, ((0, "a", 0),), many=0)
        day.pass_by(1)
        self.assertEqual(day.urgent(("u", 1, 1, ("ann",), (1,), 0), within=3), 1)
        self.assertEqual(day.states()[1], ("u", "waits", None, None))
        day.end("a")
        self.assertEqual(day.states()[1], ("u", "goes", 1, None))

    def test_beyond_the_starts_of_plans(self):
        day = Day(HOUSE, (), ())
        for _ in range(3):
            day.pass_by(1000)
        self.assertEqual(day.urgent(U, within=0), 0)
        self.assertEqual(day.plan(), [(3000, "u", 0)])


class TheRoom(unittest.TestCase):
    def test_fewest_others_later(self):
        # Two wait in room 0, one in room 1, none that is made later in room 2, none in room 3.
        cases = (("a", 9, 9, (), (0,), 0), ("b", 9, 9, (), (0,), 0), ("c", 9, 9, (), (1,), 0), ("d", 9, 9, (), (2,), 0))
        plan = ((1, "a", 0), (1, "b", 0), (1, "c", 1), (20, "d", 2))
        day = lambda: Day((4, ()), cases, plan)
        self.assertEqual(day().urgent(("u", 5, 5, (), (0, 1), 0)), 1)
        self.assertEqual(day().urgent(("u", 5, 5, (), (0,), 0)), 0)
        self.assertEqual(day().urgent(("u", 5, 5, (), (0, 1, 2, 3), 0)), 2)
        self.assertEqual(day().urgent(("u", 5, 5, (), (0, 1, 3), 0)), 3)
        # Where it may take until 21, d is made later too, as is c, and the first of both is taken.
        self.assertEqual(day().urgent(("u", 5, 21, (), (0, 1, 2), 0)), 1)
        self.assertEqual(day().urgent(("u", 5, 21, (), (0, 2), 0)), 2)
        self.assertEqual(day().urgent(("u", 5, 20, (), (0, 1, 2), 0)), 2)

    def test_of_several_the_first(self):
        day = Day((4, ()), (), ())
        self.assertEqual(day.urgent(("u", 5, 5, (), (1, 2, 3), 0)), 1)
        # u goes in room 1 until 5 at the latest, which makes nobody later who waits.
        self.assertEqual(day.urgent(("v", 5, 5, (), (1, 2, 3), 0), within=5), 1)
        self.assertEqual(day.states()[1], ("v", "waits", None, None))

    def test_a_room_in_time_goes_ahead_of_one_with_fewer_made_later(self):
        cases = (("a", 50, 50, (), (0,), 0), ("b", 9, 9, (), (1,), 0))
        day = lambda: Day((2, ()), cases, ((0, "a", 0), (1, "b", 1)))
        self.assertEqual(day().urgent(("u", 5, 5, (), (0, 1), 0), within=49), 1)
        self.assertEqual(day().urgent(("u", 5, 5, (), (0, 1), 0), within=50), 0)

    def test_only_later_latest_begins_count(self):
        # b may begin at 60 at the latest because of a, whether u is in its room or not.
        cases = (("a", 30, 60, ("ann",), (0,), 0), ("b", 9, 9, ("ann",), (1,), 0))
        day = Day((2, ("ann",)), cases, ((0, "a", 0), (1, "b", 1)), many=2)
        self.assertEqual(day.urgent(("u", 5, 60, (), (1,), 0), within=0), 1)
        self.assertEqual(day.bounds()[2], ("b", 1, 60, 2, 69))

    def test_against_a_search(self):
        chance = random.Random(61)
        rooms, answers = 3, []
        for cases, plan in samples(61, 150, most=3, longest=3, rooms=3):
            plan = tuple(sorted([(min(row[0], 9), *row[1:]) for row in plan]))
            cases = tuple([(*case[:2], min(case[2], case[1] + 2), *case[3:5], 0) for case in cases])
            many = chance.choice((0, 1, 2))
            day, slow = Day(random_house(rooms), cases, plan, many=many), SlowDay(cases, plan, many)
            for one in (day, slow):
                one.pass_by(1 + len(answers) % 7)
            case = random_case(chance, "u", 5, rooms)
            deed = ("urgent", case, chance.choice((0, 1, 3, 8)))
            try:
                answer = do(slow, deed)
            except DayError as refused:
                answer = type(refused)
            answers.append(answer)
            if isinstance(answer, int):
                self.assertEqual(do(day, deed), answer)
            else:
                with self.assertRaises(answer):
                    do(day, deed)
            self.assertEqual(told(day)[:6], (
                slow.now, slow.over(), slow.plan(), slow.cases(), slow.states(), slow.bounds()))
        self.assertEqual({0, 1, 2, Crowded}, set(answers))


class Kept(unittest.TestCase):
    def test_what_is_told_is_a_number(self):
        self.assertIs(type(Day(HOUSE, CASES, PLAN).urgent(U)), int)

    def test_what_is_handed_in_is_as_it_was(self):
        odd = ["u", [5], (8, [1])]
        day = Day(HOUSE, CASES, PLAN)
        with self.assertRaises(NoCases):
            day.urgent(odd)
        self.assertEqual(odd, ["u", [5], (8, [1])])
