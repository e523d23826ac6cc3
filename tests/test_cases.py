import copy
import unittest

from roomsday.cases import are_cases, is_house
from tests.samples import CASES, HOUSE, PEOPLE, odd_things, with_part

CASE = ("hip", 60, 90, ("ann", "bo"), (0, 1), 30)


class Houses(unittest.TestCase):
    def told(self, thing, answer):
        with self.subTest(repr(thing)[:80]):
            self.assertIs(is_house(thing), answer)
            self.assertIs(is_house(thing=thing), answer)

    def test_rooms(self):
        for rooms in (1, 2, 3, 4):
            self.told((rooms, ("ann",)), True)
        for rooms in (0, 5, -1, 10 ** 39, True, False, None, "2", (2,), [2], 2.0):
            self.told((rooms, ("ann",)), False)

    def test_people(self):
        for people in ((), ("a",), ("abcdefgh",), ("a", "aa", "b"), PEOPLE, ("az", "b")):
            self.told((2, people), True)
        for people in (PEOPLE + ("ida",), ("b", "a"), ("a", "a"), ("a", "c", "b"), [], ["ann"],
                       "ann", None, True, 3, ((),), (("a",),), ("a", None), ("a", 1), (1, 2),
                       (True,), (["a"],), ([], "a"), ("ann",) * 400):
            self.told((2, people), False)

    def test_names(self):
        for name in ("a", "z", "abcdefgh", "zzzzzzzz"):
            self.told((2, (name,)), True)
        for name in ("", "abcdefghi", "A", "aB", "a b", " a", "a1", "a-", "a_", "a\n", "{", "`",
                     "~", "a" * 10000, "\u00e4", "\u0131", "\u0430", "\uff41"):
            self.told((2, (name,)), False)

    def test_form(self):
        for thing in odd_things():
            self.told(thing, False)
        for thing in ([2, ("ann",)], (2,), (2, ("ann",), ()), (("ann",), 2), (2, ("ann",), None)):
            self.told(thing, False)


class Cases(unittest.TestCase):
    def told(self, thing, answer, house=HOUSE):
        with self.subTest(repr(thing)[:80]):
            self.assertIs(are_cases(house, thing), answer)
            self.assertIs(are_cases(thing=thing, house=house), answer)

    def parts(self, at, good, bad, case=CASE, house=HOUSE):
        for part in good:
            self.told((with_part(case, at, part),), True, house)
        for part in bad:
            self.told((with_part(case, at, part),), False, house)

    def test_names(self):
        self.parts(0, ("a", "z", "abcdefgh"), (
            "", "abcdefghi", "Hip", "h p", "h1", "hip\n", None, 1, True, ("hip",), ["hip"], b"hip"))

    def test_usual(self):
        case = with_part(CASE, 2, 400)
        self.parts(1, (1, 2, 199, 200), (
            0, -1, 201, 10 ** 39, True, False, None, "60", (60,), [60], 60.0), case)
        self.told((with_part(with_part(CASE, 1, True), 2, 1),), False)

    def test_longest(self):
        self.parts(2, (60, 61, 399, 400), (
            59, 1, 0, -60, 401, 10 ** 39, True, None, "90", (90,), [90], 90.0))
        self.told((("hip", 1, 1, (), (0,), 0),), True)
        self.told((("hip", 1, True, (), (0,), 0),), False)
        self.told((("hip", 200, 400, (), (0,), 0),), True)
        self.told((("hip", 200, 199, (), (0,), 0),), False)
        self.told((("hip", 200, 401, (), (0,), 0),), False)

    def test_teams(self):
        self.parts(3, ((), ("ann",), ("dee",), ("ann", "dee"), ("ann", "bo", "cy")), (
            ("ann", "bo", "cy", "dee"), ("eve",), ("ann", "eve"), ("bo", "ann"), ("ann", "ann"),
            ["ann"], [], "ann", None, True, 1, (None,), (1,), (True,), ((),), (("ann",),),
            (["ann"],), ("",), ("an",), ("ann", 1), ("ann",) * 400))
        self.told((with_part(CASE, 3, ()),), True, (2, ()))
        self.told((with_part(CASE, 3, ("ann",)),), False, (2, ()))

    def test_places(self):
        self.parts(4, ((0,), (1,), (0, 1)), (
            (), (2,), (0, 2), (0, 1, 2), (-1,), (1, 0), (0, 0), (1, 1), [0], [], 0, None, True,
            "0", (True,), (False,), (0, True), ("0",), (None,), ((0,),), ([0],), (0,) * 400))
        self.parts(4, ((0,),), ((1,), (0, 1)), house=(1, ("ann", "bo")))
        self.parts(4, ((0, 1, 2, 3), (3,)), ((4,), (0, 4)), house=(4, ("ann", "bo")))

    def test_first(self):
        self.parts(5, (0, 1, 599, 600), (
            -1, 601, 10 ** 39, True, False, None, "0", (0,), [0], 0.0))

    def test_rising_by_names(self):
        other = with_part(CASE, 0, "jaw")
        last = with_part(CASE, 0, "jawa")
        self.told((CASE, other), True)
        self.told((CASE, other, last), True)
        self.told((other, CASE), False)
        self.told((CASE, last, other), False)
        self.told((CASE, CASE), False)
        self.told((CASE, with_part(CASE, 1, 61)), False)
        self.told((with_part(CASE, 1, 70), with_part(other, 1, 50)), True)

    def test_how_many(self):
        row = tuple([with_part(CASE, 0, name) for name in "abcdefghi"])
        self.told((), True)
        self.told(row[:1], True)
        self.told(row[:8], True)
        self.told(row, False)
        self.told(CASES, True)

    def test_form(self):
        for thing in odd_things():
            self.told(thing, False)
        for thing in ([CASE], [], CASE, (list(CASE),), (CASE[:5],), (CASE + (0,),), (CASE, None),
                      (CASE, ()), ((),), (CASE, [list(CASE)])):
            self.told(thing, False)
        for at in range(6):
            self.parts(at, (), [odd for odd in odd_things() if not self.fits(at, odd)])

    def fits(self, at, odd):
        """Whether an odd thing is fine after all in this place of CASE."""
        # By its signs: True equals 1, and (True,) equals (1,).
        good = {0: ("'a'", "'hip'"), 1: ("1", "7"), 4: ("(1,)",), 5: ("0", "1", "7")}
        return repr(odd) in good.get(at, ())


class Untouched(unittest.TestCase):
    def test_what_is_handed_in_is_as_it_was(self):
        for thing in ([1, ["ann", ("b", [2])]], (2, ["ann"]), [list(CASE)], (CASE[:3] + ([], [], 0),)):
            before = copy.deepcopy(thing)
            first = is_house(thing), are_cases(HOUSE, thing)
            self.assertEqual(thing, before)
            self.assertEqual((is_house(thing), are_cases(HOUSE, thing)), first)
