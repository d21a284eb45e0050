"""The classes of errors: the interface, crossties/errors.py."""

import inspect

from crossties import errors
from crossties.errors import (
    BadAct, BadLists, BadMade, BadMap, BadOrder, BadParty, BadRoads, BadStand, BadStep, BadText, NameMissing, NoRoad,
    NotGood, NothingDone, TieError, TooGreat, UnknownName, UnlikeMaps, UnlikeParties)

from tests.samples import Case, no_words

PLAIN = [UnlikeMaps, UnlikeParties, TooGreat, NothingDone]
WITH_PATH = [BadMap, BadParty, BadStand, BadLists, BadRoads, BadMade]
WITH_ONE = [
    (NotGood, "ring"), (NoRoad, "thing"), (BadStep, "number"), (BadOrder, "number"), (BadText, "place"),
    (BadAct, "word"), (UnknownName, "name")]


class ErrorsTest(Case):
    def test_bases(self):
        self.assertEqual(TieError.__bases__, (ValueError,))
        self.assertEqual(NameMissing.__bases__, (LookupError,))
        self.assertEqual(UnknownName.__bases__, (NameMissing,))
        for kind in PLAIN + WITH_PATH + [kind for kind, _ in WITH_ONE if kind is not UnknownName]:
            self.assertEqual(kind.__bases__, (TieError,))
        self.assertFalse(issubclass(TieError, LookupError))
        self.assertFalse(issubclass(NameMissing, ValueError))

    def test_there_are_no_others(self):
        classes = {value for _, value in inspect.getmembers(errors, inspect.isclass)}
        named = [TieError, NameMissing] + PLAIN + WITH_PATH + [kind for kind, _ in WITH_ONE]
        self.assertEqual(classes, set(named))
        self.assertEqual(len(named), 19)
        for kind in named:
            self.assertEqual(kind.__module__, "crossties.errors")

    def test_without_arguments(self):
        for kind in [TieError, NameMissing] + PLAIN:
            self.assertEqual(vars(kind()), {})

    def test_paths_are_kept_as_tuples(self):
        for kind in WITH_PATH:
            for path in [(), [], (0,), [1, 2], (1, 2, "x", None, [3]), no_words(), tuple(no_words())]:
                error = kind(path)
                self.assertEqual(vars(error), {"path": tuple(path)})
                self.assertIs(type(error.path), tuple)

    def test_a_path_is_not_the_list_that_was_passed(self):
        for kind in WITH_PATH:
            path = [1, 2]
            error = kind(path)
            path.append(3)
            self.assertEqual(error.path, (1, 2))

    def test_arguments_are_kept_as_they_are(self):
        for kind, name in WITH_ONE:
            for value in no_words() + ["a", 7]:
                error = kind(value)
                self.assertEqual(list(vars(error)), [name])
                self.assertIs(vars(error)[name], value)

    def test_they_can_be_raised_and_shown(self):
        for kind in [TieError, NameMissing] + PLAIN:
            with self.assertRaises(kind) as caught:
                raise kind()
            self.assertIsInstance(str(caught.exception), str)
        for kind in WITH_PATH + [kind for kind, _ in WITH_ONE]:
            with self.assertRaises(kind) as caught:
                raise kind((1, 2))
            self.assertIsInstance(str(caught.exception), str)
