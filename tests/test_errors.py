import copy
import unittest

from roomsday import errors

TOLD = ("NoHouse", "NoCases", "NoPlan", "NoCount", "NoMinutes", "NoLot", "NoText", "NoRow")
ASKED = ("NoCase", "NotNow", "TooMany", "Crowded", "NothingLeft")
WITH_FIELDS = ("NoText", "NoCase", "NotNow")


class Families(unittest.TestCase):
    def test_the_top_is_a_value_error(self):
        self.assertEqual(errors.DayError.__bases__, (ValueError,))
        self.assertEqual(errors.ToldError.__bases__, (errors.DayError,))
        self.assertEqual(errors.AskedError.__bases__, (errors.DayError,))

    def test_each_class_is_straight_under_its_family_alone(self):
        for family, names in ((errors.ToldError, TOLD), (errors.AskedError, ASKED)):
            for name in names:
                with self.subTest(name):
                    self.assertEqual(getattr(errors, name).__bases__, (family,))

    def test_none_is_of_another_class(self):
        made = {name: getattr(errors, name)("x") for name in TOLD + ASKED}
        for name, error in made.items():
            self.assertIsInstance(error, errors.DayError)
            self.assertIsInstance(error, ValueError)
            self.assertEqual(isinstance(error, errors.ToldError), name in TOLD)
            self.assertEqual(isinstance(error, errors.AskedError), name in ASKED)
            for other in made:
                self.assertEqual(isinstance(error, getattr(errors, other)), name == other)

    def test_they_are_defined_in_this_file(self):
        for name in ("DayError", "ToldError", "AskedError") + TOLD + ASKED:
            self.assertEqual(getattr(errors, name).__module__, "roomsday.errors")


class Fields(unittest.TestCase):
    def test_those_without_fields_are_made_of_a_text(self):
        for name in TOLD + ASKED + ("DayError", "ToldError", "AskedError"):
            if name not in WITH_FIELDS:
                with self.subTest(name):
                    self.assertEqual(str(getattr(errors, name)("so it is")), "so it is")

    def test_the_line_of_no_text(self):
        self.assertIsNone(errors.NoText().line)
        self.assertIsNone(errors.NoText(None).line)
        self.assertEqual(errors.NoText(3).line, 3)
        self.assertEqual(errors.NoText(line=3).line, 3)

    def test_the_name_of_no_case_and_not_now(self):
        for made in (errors.NoCase, errors.NotNow):
            self.assertEqual(made("hip").name, "hip")
            self.assertEqual(made(name="hip").name, "hip")
            with self.assertRaises(TypeError):
                made()

    def test_the_name_may_be_anything_and_is_a_copy(self):
        for made in (errors.NoCase, errors.NotNow):
            for name in (None, True, 0, "", (1, "a"), [1, ("a", [2])]):
                kept = copy.deepcopy(name)
                self.assertEqual(made(name).name, kept)
                self.assertEqual(name, kept)
            handed = [1, ("a", [2])]
            error = made(handed)
            handed[1][1].append(3)
            handed.append(4)
            self.assertEqual(error.name, [1, ("a", [2])])
            self.assertNotIn(handed, error.args)

    def test_they_are_raised_and_caught_by_their_families(self):
        with self.assertRaises(errors.ToldError) as caught:
            raise errors.NoText(2)
        self.assertEqual(caught.exception.line, 2)
        with self.assertRaises(errors.AskedError) as caught:
            raise errors.NotNow("hip")
        self.assertEqual(caught.exception.name, "hip")
