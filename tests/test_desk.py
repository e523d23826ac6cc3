"""Point 18: a desk and its rows."""

import random
import unittest

from roomsday.days import Day
from roomsday.desk import Desk
from roomsday.errors import (
    Crowded, DayError, NoCase, NoCases, NoCount, NoMinutes, NoRow, NoText, NothingLeft, NotNow, TooMany)
from roomsday.texts import cases_text, house_text, plan_text
from tests.samples import CASES, HOUSE, PLAN, odd_things, samples
from tests.slow_days import do, random_deed, random_house
from tests.test_days import FOUR, FOUR_HOUSE, FOUR_PLAN
from tests.test_texts import CASES_TEXT, HOUSE_TEXT, PLAN_TEXT

ASKING = ("minute", "over", "states", "bounds", "plan")


def four(many=1):
    return Desk(house_text(FOUR_HOUSE), cases_text(FOUR), plan_text(FOUR_PLAN), many=many)


def told(desk):
    return [desk.say(row) for row in ASKING]


def slow_told(day):
    """What a desk is to answer, of what its day tells."""
    def written(rows):
        words = [":".join("-" if part is None else str(part) for part in row) for row in rows]
        return " ".join(words) or "none"
    bounds = day.bounds()
    return [str(day.minute()), str(day.over()), written(day.states()),
            "beyond" if bounds is None else written(bounds), written(day.plan())]


def row_of(deed):
    """A deed of a lot as a row."""
    if deed[0] != "urgent":
        return f"{deed[0]} {deed[1]}"
    name, usual, longest, team, places, first = deed[1]
    return (f"urgent {name} {usual} {longest} {','.join(team) or '-'} "
            f"{','.join(map(str, places))} {first} {deed[2]}")


class Making(unittest.TestCase):
    def refused(self, line, *texts, **named):
        with self.assertRaises(NoText, msg=repr(texts)[:120]) as caught:
            Desk(*texts, **named)
        self.assertEqual(caught.exception.line, line)

    def test_no_text(self):
        for odd in odd_things() + [(), HOUSE]:
            self.refused(None, odd, CASES_TEXT, PLAN_TEXT)
            self.refused(None, odd, odd, odd, many=odd)
            if not isinstance(odd, str):
                self.refused(None, HOUSE_TEXT, odd, PLAN_TEXT)
                self.refused(None, HOUSE_TEXT, CASES_TEXT, odd, many=None)
        self.refused(3, HOUSE_TEXT, CASES_TEXT.replace("jaw", "Jaw"), PLAN_TEXT, many=9)
        self.refused(2, HOUSE_TEXT, CASES_TEXT, PLAN_TEXT.replace("hip", "arm"), many=9)
        self.refused(1, HOUSE_TEXT, CASES_TEXT.replace(" ", ";"), "x")
        self.refused(None, "x", "y", "z")

    def test_no_count(self):
        for odd in [one for one in odd_things() if repr(one) not in ("0", "1", "7")] + [9, -1, "1"]:
            with self.assertRaises(NoCount):
                Desk(HOUSE_TEXT, CASES_TEXT, PLAN_TEXT, many=odd)
        for many in range(9):
            self.assertEqual(Desk(HOUSE_TEXT, CASES_TEXT, PLAN_TEXT, many=many).say("minute"), "0")

    def test_by_names(self):
        desk = Desk(many=1, plan=PLAN_TEXT, cases=CASES_TEXT, house=HOUSE_TEXT)
        self.assertEqual(told(desk), told(Desk(HOUSE_TEXT, CASES_TEXT, PLAN_TEXT)))
        self.assertNotEqual(told(desk), told(Desk(HOUSE_TEXT, CASES_TEXT, PLAN_TEXT, many=2)))
        with self.assertRaises(TypeError):
            Desk(HOUSE_TEXT, CASES_TEXT, PLAN_TEXT, 1)


class Rows(unittest.TestCase):
    def test_each_row_and_its_answer(self):
        desk = four()
        for row, answer in (
                ("minute", "0"), ("over", "0"),
                ("states", "a:goes:0:- b:waits:-:- c:waits:-:- d:waits:-:-"),
                ("bounds", "a:0:0:1:5 b:1:5:2:7 c:4:5:5:7 d:7:7:8:16"),
                ("plan", "0:a:0 1:b:0 4:c:1 7:d:2"),
                ("pass 4", "done"), ("minute", "4"), ("over", "1"),
                ("states", "a:over:0:- b:waits:-:- c:waits:-:- d:waits:-:-"),
                ("end a", "done"),
                ("states", "a:done:0:4 b:goes:4:- c:goes:4:- d:waits:-:-"),
                ("bounds", "b:4:4:5:6 c:4:4:5:6 d:7:7:8:8"),
                ("off d", "done"), ("plan", "0:a:0 1:b:0 4:c:1"),
                ("urgent u 1 2 bo 1,2 0 1", "2"), ("plan", "0:a:0 1:b:0 4:c:1 4:u:2"),
                ("back", "done"), ("plan", "0:a:0 1:b:0 4:c:1"),
                ("pass 1000", "done"), ("minute", "1004"), ("over", "2"), ("bounds", "beyond"),
                ("states", "a:done:0:4 b:done:4:8 c:done:4:6")):
            self.assertEqual(desk.say(row), answer, row)

    def test_none(self):
        desk = Desk("1:", "", "")
        self.assertEqual(told(desk), ["0", "0", "none", "none", "none"])
        desk = four(8)
        desk.say("pass 1000")
        self.assertEqual(desk.say("bounds"), "none")
        self.assertEqual(desk.say("states"), "a:done:0:5 b:done:5:9 c:done:5:7 d:done:7:16")

    def test_urgent(self):
        self.assertEqual(four().say("urgent u 1 2 - 2 0 0"), "2")
        self.assertEqual(four().say(row="urgent abcdefgh 200 400 ann,bo 0,1,2 600 1000"), "1")
        desk = four()
        desk.say("urgent u 1 2 ann,bo 1 9 30")
        self.assertEqual(desk.say("plan"), "0:a:0 9:u:1 1:b:0 4:c:1 7:d:2")

    def test_a_day_beyond_four_figures(self):
        desk = four()
        for _ in range(11):
            desk.say("pass 1000")
        self.assertEqual(desk.say("minute"), "11000")

    def test_as_a_day(self):
        chance = random.Random(91)
        for cases, plan in samples(91, 40, longest=9, rooms=3):
            house, many = random_house(3), chance.randint(0, 3)
            desk = Desk(house_text(house), cases_text(cases), plan_text(plan), many=many)
            day = Day(house, cases, plan, many=many)
            for _ in range(25):
                deed = ("back",) if chance.random() < 0.1 else random_deed(chance, day, 9, 3)
                try:
                    answer = day.back() if deed == ("back",) else do(day, deed)
                    said = desk.say("back" if deed == ("back",) else row_of(deed))
                    self.assertEqual(said, "done" if answer is None else str(answer))
                except DayError as error:
                    with self.assertRaises(type(error)):
                        desk.say("back" if deed == ("back",) else row_of(deed))
                self.assertEqual(told(desk), slow_told(day))

    def test_kinds(self):
        for row in ASKING + ("pass 4", "end a", "off d", "urgent u 1 2 - 2 0 0", "back"):
            desk = four()
            desk.say("pass 1")
            self.assertIs(type(desk.say(row)), str)


class NoRows(unittest.TestCase):
    def refused(self, row, error=NoRow):
        desk = four()
        desk.say("pass 2")
        before = told(desk)
        with self.assertRaises(error, msg=repr(row)[:120]) as caught:
            desk.say(row)
        self.assertIs(type(caught.exception), error)
        self.assertEqual(told(desk), before)
        desk.say("back")
        with self.assertRaises(NothingLeft):
            desk.say("back")
        return caught.exception

    def test_things_of_any_kind(self):
        for odd in odd_things() + [(), ["minute"], ("minute",), [["pass", 1]], b"minute"]:
            self.refused(odd)

    def test_line_feeds(self):
        for row in ("minute\n", "\nminute", "pass 1\n", "end a\n", "end\na", "end a\nb", "pass\n1", "end \n", "off d\noff c"):
            self.refused(row)

    def test_first_words(self):
        for row in ("", "x", "Minute", "minutes", "MINUTE", "ends a", "lot", "cases", "len", "busy", "pass_by 1", "a", "0",
                    "done", "none", "many"):
            self.refused(row)

    def test_counts_of_words(self):
        for word in ASKING + ("back",):
            self.refused(word + " 1")
            self.refused(word + " a b")
        for row in ("end", "end a b", "pass", "pass 1 1", "off", "off d c", "urgent", "urgent u 1 2 - 2 0",
                    "urgent u 1 2 - 2 0 0 0", "urgent u 1 2 2 0 0"):
            self.refused(row)

    def test_blanks(self):
        for row in ("minute", "end a", "pass 1", "urgent u 1 2 - 2 0 0", "back", "off d"):
            self.refused(" " + row)
            self.refused(row + " ")
            if " " in row:
                self.refused(row.replace(" ", "  ", 1))
                self.refused(row.replace(" ", "\t", 1))
        for row in (" ", "  ", "end ", "end  ", "pass ", "urgent u 1 2  2 0 0", "urgent  1 2 - 2 0 0", "end  a"):
            self.refused(row)

    def test_numbers(self):
        for number in ("01", "00", "-1", "+1", "1.0", "1a", "a", "10000", "00001", "1,2", "-", "1e1", "0x1", "\u0661",
                       "\u00b2", "_1", "1_0"):
            self.refused(f"pass {number}")
            for at in (2, 3, 6, 7):
                words = "urgent u 1 2 - 2 0 0".split(" ")
                words[at] = number
                self.refused(" ".join(words))

    def test_no_row_goes_ahead_of_what_the_day_refuses(self):
        self.refused("urgent A 1 2 ? ? 0 x")
        self.refused("urgent a 1 02 - 2 0 0")

    def test_then_as_the_day_refuses(self):
        for number in ("0", "1001", "9999"):
            self.refused(f"pass {number}", NoMinutes)
        self.assertEqual(self.refused("end x", NoCase).name, "x")
        self.assertEqual(self.refused("end A", NoCase).name, "A")
        self.assertEqual(self.refused("off 17", NoCase).name, "17")
        self.assertEqual(self.refused("off -", NoCase).name, "-")
        self.assertEqual(self.refused("end b", NotNow).name, "b")
        self.assertEqual(self.refused("off a", NotNow).name, "a")
        self.refused("urgent u 1 2 - 2 0 1001", NoMinutes)
        self.refused("urgent u 1 2 - 0 0 2", Crowded)
        with self.assertRaises(NothingLeft):
            four().say("back")

    def test_no_cases(self):
        for row in ("urgent a 1 2 - 2 0 0", "urgent A 1 2 - 2 0 0", "urgent abcdefghi 1 2 - 2 0 0", "urgent - 1 2 - 2 0 0",
                    "urgent u 0 2 - 2 0 0", "urgent u 201 400 - 2 0 0", "urgent u 2 1 - 2 0 0", "urgent u 1 401 - 2 0 0",
                    "urgent u 1 2 eve 2 0 0", "urgent u 1 2 bo,ann 2 0 0", "urgent u 1 2 ann, 2 0 0", "urgent u 1 2 , 2 0 0",
                    "urgent u 1 2 ann,ann 2 0 0", "urgent u 1 2 -- 2 0 0", "urgent u 1 2 -,ann 2 0 0", "urgent u 1 2 0 2 0 0",
                    "urgent u 1 2 - 3 0 0", "urgent u 1 2 - - 0 0", "urgent u 1 2 - 02 0 0", "urgent u 1 2 - 2,1 0 0",
                    "urgent u 1 2 - 2, 0 0", "urgent u 1 2 - x 0 0", "urgent u 1 2 - 1,1 0 0", "urgent u 1 2 - -1 0 0",
                    "urgent u 1 2 - 2 601 0", "urgent u 1 2 ? ? 0 1001"):
            self.refused(row, NoCases)

    def test_too_many(self):
        desk = four()
        for name in "uvwx":
            desk.say(f"urgent {name} 1 2 - 2 0 1000")
        before = told(desk)
        with self.assertRaises(TooMany):
            desk.say("urgent y 1 2 - 2 0 1001")
        self.assertEqual(told(desk), before)

    def test_a_long_row(self):
        self.refused("end " + "a" * 9996, NoCase)
        self.refused("end " * 2500)
        self.refused("~" * 10000)
