"""Point 17: houses, cases and plans as texts."""

import random
import unittest

from roomsday.cases import are_cases, is_house
from roomsday.errors import NoText
from roomsday.plans import is_plan
from roomsday.texts import cases_text, house_text, plan_text, read_cases, read_house, read_plan
from tests.samples import CASES, HOUSE, PEOPLE, PLAN, odd_things, samples
from tests.slow_days import random_house

HOUSE_TEXT = "2: ann bo cy dee"
CASES_TEXT = (
    "eye 20 20 cy 0,1 0\n"
    "hip 60 90 ann,bo 0,1 30\n"
    "jaw 40 100 - 1 0\n"
    "knee 50 70 bo,cy 0 0\n"
    "toe 10 15 dee 0 0")
PLAN_TEXT = "10 eye 0\n30 hip 0\n40 jaw 1\n90 knee 0"
SIGNS = " -,:.~09a1zAZ+_\n"


class Texts(unittest.TestCase):
    def line(self, line, read, *handed):
        with self.assertRaises(NoText, msg=repr(handed)[:120]) as caught:
            read(*handed)
        self.assertEqual(caught.exception.line, line, repr(handed)[:120])
        self.assertIs(type(caught.exception), NoText)


class Written(Texts):
    def test_as_the_document_writes(self):
        self.assertEqual(house_text((2, ("ann", "bo"))), "2: ann bo")
        self.assertEqual(cases_text((("hip", 60, 90, ("ann", "bo"), (0, 1), 30),)), "hip 60 90 ann,bo 0,1 30")
        self.assertEqual(plan_text(((30, "hip", 1),)), "30 hip 1")

    def test_the_samples(self):
        self.assertEqual(house_text(house=HOUSE), HOUSE_TEXT)
        self.assertEqual(cases_text(cases=CASES), CASES_TEXT)
        self.assertEqual(plan_text(plan=PLAN), PLAN_TEXT)

    def test_of_none(self):
        self.assertEqual(house_text((2, ())), "2:")
        self.assertEqual(cases_text(()), "")
        self.assertEqual(plan_text(()), "")

    def test_the_greatest_numbers(self):
        case = ("abcdefgh", 200, 400, ("ann", "bo", "cy"), (0, 1, 2, 3), 600)
        self.assertEqual(cases_text((case,)), "abcdefgh 200 400 ann,bo,cy 0,1,2,3 600")
        self.assertEqual(plan_text(((2000, "abcdefgh", 3),)), "2000 abcdefgh 3")
        self.assertEqual(house_text((4, PEOPLE)), "4: ann bo cy dee eve fay gus hal")


class Read(Texts):
    def test_to_the_same(self):
        self.assertEqual(read_house(text=HOUSE_TEXT), HOUSE)
        self.assertEqual(read_cases(text=CASES_TEXT, house=HOUSE), CASES)
        self.assertEqual(read_plan(text=PLAN_TEXT, cases=CASES), PLAN)
        self.assertEqual(read_house("2:"), (2, ()))
        self.assertEqual(read_cases(HOUSE, ""), ())
        self.assertEqual(read_plan(CASES, ""), ())
        self.assertEqual(read_plan((), ""), ())
        for rooms in range(1, 5):
            for many in range(9):
                house = (rooms, PEOPLE[:many])
                self.assertEqual(read_house(house_text(house)), house)

    def test_random_ones(self):
        for cases, plan in samples(81, 60, longest=200, rooms=4):
            house = random_house(4)
            self.assertEqual(read_cases(house, cases_text(cases)), cases)
            self.assertEqual(read_plan(cases, plan_text(plan)), plan)

    def test_kinds(self):
        house, cases, plan = read_house(HOUSE_TEXT), read_cases(HOUSE, CASES_TEXT), read_plan(CASES, PLAN_TEXT)
        self.assertTrue(is_house(house) and are_cases(HOUSE, cases) and is_plan(CASES, plan))


class NoHouses(Texts):
    def test_things_of_any_kind(self):
        for odd in odd_things() + [(), HOUSE, [HOUSE_TEXT], (HOUSE_TEXT,)]:
            self.line(None, read_house, odd)

    def test_spoilt(self):
        for text in ("2", ":", "2 :", "2: ", " 2:", "2:ann", "2:  ann", "2: ann ", "2: ann  bo", "2: bo ann",
                     "2: ann ann", "0:", "5:", "02:", "2a:", "-1:", "+2:", "2::", "2: ann:", "2: ann,bo",
                     "2: Ann", "2: abcdefghi", "2: -", "2:\n", "\n2:", "2:\nann", "2: ann\n", "2: ann\nbo",
                     "20000: ann", "2.0: ann", "ann bo", "2: " + " ".join(PEOPLE) + " ida", "two: ann", "2;",
                     "\u0662: ann", "\u00b2: ann", "2: \u00e4nn"):
            self.line(None, read_house, text)

    def test_one_sign_other(self):
        spoil(self, HOUSE_TEXT, lambda text: house_text(read_house(text)), None)


def spoil(test, text, again, expected):
    """Change, take out and put in a sign at each place: it is refused, or written so again."""
    refused = 0
    for at in range(len(text) + 1):
        for sign in SIGNS:
            for other in (text[:at] + sign + text[at:], text[:at] + sign + text[at + 1:], text[:at] + text[at + 1:]):
                try:
                    test.assertEqual(again(other), other)
                except NoText as error:
                    refused += 1
                    if expected is None:
                        test.assertIsNone(error.line)
                    else:
                        test.assertEqual(error.line, expected(other), repr(other))
    test.assertGreater(refused, 20 * len(text))


def first_none(text, read):
    """The first line by which what stands up to it is none, found by reading all that stands up to each."""
    lines = text.split("\n")
    for number in range(1, len(lines) + 1):
        upto = "\n".join(lines[:number])
        try:
            if upto == "":
                return number
            read(upto)
        except NoText:
            return number
    return 0


class NoCasesTexts(Texts):
    def read(self, line, *lines):
        self.line(line, read_cases, HOUSE, "\n".join(lines))

    def test_things_of_any_kind(self):
        for odd in odd_things() + [(), CASES, [CASES_TEXT], (CASES_TEXT,)]:
            if not isinstance(odd, str):
                self.line(None, read_cases, HOUSE, odd)
            elif odd:
                self.line(1, read_cases, HOUSE, odd)

    def test_words(self):
        good = "hip 60 90 ann,bo 0,1 30"
        for at, words in enumerate((
                ("", "Hip", "h1", "abcdefghi", "-", "hip,", "30"),
                ("", "0", "060", "00", "-1", "+60", "201", "91", "10000", "60.", "6o", "a"),
                ("", "59", "401", "090", "10000", "-90", "b", "9 0"),
                ("", "ann,", ",ann", "bo,ann", "ann,ann", "ann,eve", "eve", "ann,bo,cy,dee", "ann;bo", "--", "ann,-",
                 "-,ann", "0", "none", "ann, bo"),
                ("", "-", "0,", ",0", "1,0", "0,0", "2", "0,1,2", "00", "01", "0;1", "a", "0,-1", "0, 1"),
                ("", "601", "030", "-1", "10000", "x", "3 0", "30 ", "30,"))):
            for word in words:
                parts = good.split(" ")
                parts[at] = word
                self.read(1, " ".join(parts))
                self.read(2, "eye 20 20 cy 0,1 0", " ".join(parts), good)

    def test_forms(self):
        good = "hip 60 90 ann,bo 0,1 30"
        for line in (" " + good, good + " ", good.replace(" ", "  ", 1), good + " 0", good.replace(" 30", ""),
                     good.replace(" ", "\t", 1), good.replace(" ", ","), good + ";", good + "\r"):
            self.read(1, line)
            self.read(1, line, good)
            self.read(2, "eye 20 20 cy 0,1 0", line)

    def test_empty_lines(self):
        good = CASES_TEXT.split("\n")
        self.read(1, "", "")
        self.read(1, "", good[0])
        self.read(2, good[0], "")
        self.read(2, good[0], "", good[1])
        self.read(6, *good, "")
        self.read(1, "", "", "")
        self.read(1, " ")

    def test_lines_left_out_twice_exchanged(self):
        good = CASES_TEXT.split("\n")
        for at in range(5):
            fewer = good[:at] + good[at + 1:]
            self.assertEqual(read_cases(HOUSE, "\n".join(fewer)), CASES[:at] + CASES[at + 1:])
            self.read(at + 2, *good[:at + 1], *good[at:])
            self.read(6, *good, good[at])
            for other in range(at + 1, 5):
                turned = list(good)
                turned[at], turned[other] = turned[other], turned[at]
                self.read(at + 2, *turned)

    def test_the_ninth_line(self):
        lines = [f"{name} 5 9 - 0 0" for name in "abcdefghij"]
        self.assertEqual(len(read_cases(HOUSE, "\n".join(lines[:8]))), 8)
        self.read(9, *lines[:9])
        self.read(9, *lines)

    def test_the_first_of_several_wrong_lines(self):
        good = CASES_TEXT.split("\n")
        self.read(3, good[0], good[1], "x", "y", "")
        self.read(2, good[1], good[0], "x")

    def test_of_another_house(self):
        self.line(1, read_cases, (1, HOUSE[1]), CASES_TEXT)
        self.line(2, read_cases, (2, ("cy",)), CASES_TEXT)
        self.line(5, read_cases, (2, ("ann", "bo", "cy")), CASES_TEXT)

    def test_one_sign_other(self):
        text = "\n".join(CASES_TEXT.split("\n")[1:4])
        spoil(self, text, lambda other: cases_text(read_cases(HOUSE, other)),
              lambda other: first_none(other, lambda upto: read_cases(HOUSE, upto)))


class NoPlans(Texts):
    def read(self, line, *lines):
        self.line(line, read_plan, CASES, "\n".join(lines))

    def test_things_of_any_kind(self):
        for odd in odd_things() + [(), PLAN, [PLAN_TEXT], (PLAN_TEXT,)]:
            if not isinstance(odd, str):
                self.line(None, read_plan, CASES, odd)
            elif odd:
                self.line(1, read_plan, CASES, odd)

    def test_lines(self):
        for line in ("", " ", "30 hip", "30 hip 1 0", "hip 30 1", " 30 hip 1", "30 hip 1 ", "30  hip 1", "030 hip 1",
                     "30 hip 01", "29 hip 1", "2001 hip 1", "10000 hip 1", "30 Hip 1", "30 arm 1", "30 hip 2", "30 hip -1",
                     "+30 hip 1", "3o hip 1", "30,hip,1", "30 hip 1,", "30 hip 1.", "30\thip 1", "-1 eye 0"):
            if line:
                self.read(1, line)
            self.read(1, line, "40 jaw 1")
            self.read(2, "10 eye 0", line)
            self.read(2, "10 eye 0", line, "40 jaw 1")

    def test_edges(self):
        self.assertEqual(read_plan(CASES, "0 eye 0"), ((0, "eye", 0),))
        self.assertEqual(read_plan(CASES, "2000 eye 1"), ((2000, "eye", 1),))

    def test_lines_left_out_twice_exchanged(self):
        good = PLAN_TEXT.split("\n")
        for at in range(4):
            self.assertEqual(read_plan(CASES, "\n".join(good[:at] + good[at + 1:])), PLAN[:at] + PLAN[at + 1:])
            self.read(at + 2, *good[:at + 1], *good[at:])
            for other in range(at + 1, 4):
                turned = list(good)
                turned[at], turned[other] = turned[other], turned[at]
                try:
                    read_plan(CASES, "\n".join(turned))
                    self.fail("turned lines were read")
                except NoText as error:
                    self.assertEqual(error.line, at + 2)
        self.read(5, *good, "95 eye 1")
        self.read(3, "10 eye 0", "30 hip 0", "31 eye 1")
        self.read(2, "0 toe 0", "0 eye 0")
        self.read(5, *good, "")

    def test_of_other_cases(self):
        self.line(1, read_plan, (), PLAN_TEXT)
        self.line(3, read_plan, CASES[:2], PLAN_TEXT)

    def test_one_sign_other(self):
        spoil(self, PLAN_TEXT, lambda other: plan_text(read_plan(CASES, other)),
              lambda other: first_none(other, lambda upto: read_plan(CASES, upto)))


class LongTexts(Texts):
    def test_ten_thousand_signs(self):
        self.line(1, read_cases, HOUSE, "\n" * 10000)
        self.line(1, read_plan, CASES, "1" * 10000)
        self.line(None, read_house, "2:" + " ann" * 2000)
        chance = random.Random(82)
        for _ in range(30):
            noise = "".join(chance.choice(SIGNS) for _ in range(200)) + "~"
            self.line(1 if noise[0] == "\n" else first_none(noise, lambda upto: read_plan(CASES, upto)),
                      read_plan, CASES, noise)
