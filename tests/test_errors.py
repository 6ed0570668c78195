"""The refusals: names, values, words, and what stands straight under what."""

import inspect
import unittest

from wardweb import errors

UNDER_WEB_ERROR = {
    "BadSize": "number", "BadArrow": "at", "BadMark": "at", "BadPoint": "number", "BadTie": "tie",
    "BadText": "at", "BadName": "name", "BadNumber": "number", "BadSaying": None, "BadStrike": "at",
    "BadDeed": "first", "NotTree": None, "NotTold": None, "TooMany": "bound", "Taken": "name",
    "Full": "bound", "InUse": "name", "Same": "tie",
}
UNDER_MISSING = {"NoWeb": "name", "NoTree": "name", "NoRule": "name", "NoThing": "name", "NoTie": "tie"}
WITHOUT_VALUES_OF_PYTHON = {"WebError": ValueError, "Missing": LookupError, "NothingLeft": IndexError}
SAMPLES = {"number": -7, "at": 3, "tie": ("a", 0, 1), "name": "oak", "bound": 81, "first": "deed"}


class Bases(unittest.TestCase):
    def test_straight_under_python(self):
        for name, base in WITHOUT_VALUES_OF_PYTHON.items():
            self.assertEqual(getattr(errors, name).__bases__, (base,), name)

    def test_straight_under_web_error(self):
        for name in UNDER_WEB_ERROR:
            self.assertEqual(getattr(errors, name).__bases__, (errors.WebError,), name)

    def test_straight_under_missing(self):
        for name in UNDER_MISSING:
            self.assertEqual(getattr(errors, name).__bases__, (errors.Missing,), name)

    def test_all_are_defined_in_the_file_and_no_more(self):
        told = {**UNDER_WEB_ERROR, **UNDER_MISSING, **WITHOUT_VALUES_OF_PYTHON}
        found = [name for name, thing in vars(errors).items() if inspect.isclass(thing)]
        self.assertEqual(sorted(found), sorted(told))
        for name in told:
            self.assertEqual(getattr(errors, name).__module__, "wardweb.errors")


class Values(unittest.TestCase):
    def each(self):
        for name, value in {**UNDER_WEB_ERROR, **UNDER_MISSING}.items():
            yield getattr(errors, name), value
        for name in WITHOUT_VALUES_OF_PYTHON:
            yield getattr(errors, name), None

    def test_values_by_place(self):
        for refusal, value in self.each():
            if value is not None:
                made = refusal(SAMPLES[value])
                self.assertEqual(vars(made), {value: SAMPLES[value], "word": refusal.__name__})

    def test_values_by_name(self):
        for refusal, value in self.each():
            if value is not None:
                made = refusal(**{value: SAMPLES[value]})
                self.assertEqual(vars(made), {value: SAMPLES[value], "word": refusal.__name__})

    def test_those_without_values(self):
        for refusal, value in self.each():
            if value is None:
                self.assertEqual(vars(refusal()), {"word": refusal.__name__})

    def test_each_takes_just_its_values(self):
        for refusal, value in self.each():
            with self.assertRaises(TypeError):
                refusal("one", "more")
            with self.assertRaises(TypeError):
                refusal(other="x")
            if value is not None:
                with self.assertRaises(TypeError):
                    refusal()

    def test_caught_by_their_bases(self):
        with self.assertRaises(ValueError):
            raise errors.TooMany(5)
        with self.assertRaises(LookupError):
            raise errors.NoTie(("p", 0))
        with self.assertRaises(IndexError):
            raise errors.NothingLeft()


class FirstThing(unittest.TestCase):
    def test_of_whatever_kind(self):
        for first in (None, 5, "word", ("a", 1), ["a"], {"a": [1]}, 1.5, b"x"):
            self.assertEqual(errors.BadDeed(first).first, first)
        self.assertIsNone(errors.BadDeed(first=None).first)

    def test_kept_as_a_copy(self):
        first = ["a", ["b"], ("c", ["d"]), {"e": ["f"]}]
        refusal = errors.BadDeed(first)
        first[1].append("more")
        first[2][1].append("more")
        first[3]["e"].append("more")
        first.append("more")
        self.assertEqual(refusal.first, ["a", ["b"], ("c", ["d"]), {"e": ["f"]}])


if __name__ == "__main__":
    unittest.main()
