import inspect
import unittest

from standworth import errors
from standworth.askings import Work
from standworth.errors import InvalidName, Missing, NothingLeft, StandError
from standworth.lands import Land
from standworth.webs import Web
from standworth.weeks import Week
from tests.samples import is_one_of, small_land

OF_STAND_ERROR = {
    "InvalidName": ["value"], "InvalidNumber": ["value"], "InvalidStanding": ["value"], "InvalidKey": ["value"],
    "InvalidYard": ["at"], "InvalidRoad": ["at"], "InvalidAsking": ["at"], "InvalidGiven": ["at"],
    "InvalidWorths": [], "InvalidAmounts": [], "InvalidSteps": [], "InvalidSeconds": [], "InvalidRota": ["at"],
    "InvalidEntry": ["at"], "InvalidTie": ["at"], "InvalidOwed": [], "InvalidFlow": [], "InvalidDeed": ["at"],
    "InvalidText": ["line", "why"], "DuplicateName": ["name"], "TooMany": ["most"], "AboveTop": ["name"],
    "OtherStandings": [], "OverRoom": ["key"], "Unbalanced": ["standing"], "NotBest": ["ring"],
    "NotFitting": ["key"], "NotReached": ["least", "greatest"], "NoRow": ["ring"], "NotFlow": ["standing"],
    "Uneven": ["total"], "Occupied": ["key"], "NotReversible": ["number"], "Over": ["at"],
}
OF_MISSING = {
    "UnknownName": ["name"], "UnknownStanding": ["standing"], "UnknownLine": ["key"], "UnknownNumber": ["number"],
}
OF_INDEX_ERROR = {"NothingLeft": []}
ALL = {**OF_STAND_ERROR, **OF_MISSING, **OF_INDEX_ERROR}


class ErrorsTest(unittest.TestCase):
    def test_direct_base_classes(self):
        self.assertEqual(StandError.__bases__, (ValueError,))
        self.assertEqual(Missing.__bases__, (LookupError,))
        self.assertEqual(NothingLeft.__bases__, (IndexError,))
        for name in OF_STAND_ERROR:
            self.assertEqual(getattr(errors, name).__bases__, (StandError,), name)
        for name in OF_MISSING:
            self.assertEqual(getattr(errors, name).__bases__, (Missing,), name)

    def test_there_are_no_other_classes(self):
        found = {name for name, value in vars(errors).items() if inspect.isclass(value)}
        self.assertEqual(found, {*ALL, "StandError", "Missing"})

    def test_parameters_by_place_and_by_name_are_attributes(self):
        values = [[None, {"a": [1]}], ("quay", True)]
        for name, params in ALL.items():
            told = dict(zip(params, values))
            made = getattr(errors, name)
            for error in (made(*told.values()), made(**told)):
                self.assertEqual({param: getattr(error, param) for param in params}, told, name)
                self.assertEqual(error.code, name)
                self.assertIsInstance(str(error), str)
            self.assertEqual(list(inspect.signature(made).parameters), params, name)

    def test_other_values_are_told_as_they_are(self):
        week = Week(small_land())
        for name, params in ALL.items():
            for value in [None, True, 1, "one", week, ("quay", True), (("quay", 1), False)]:
                error = getattr(errors, name)(*([value] * len(params)))
                for param in params:
                    self.assertTrue(is_one_of(getattr(error, param), [value]), name)
        self.assertIs(InvalidName(week).value, week)

    def test_lists_and_dicts_are_copied(self):
        for name, params in ALL.items():
            for param in params:
                inner, outer = [1], {"a": [2]}
                told = [inner, (outer, inner), {("quay", 1): (inner,)}, [[outer]]]
                values = {other: 5 for other in params}
                values[param] = told
                error = getattr(errors, name)(**values)
                inner.append(3)
                outer["a"].append(4)
                outer["b"] = 5
                told.append(6)
                kept = [[1], ({"a": [2]}, [1]), {("quay", 1): ([1],)}, [[{"a": [2]}]]]
                self.assertEqual(getattr(error, param), kept, name)

    def test_raised_errors_copy(self):
        name, key, place, number = ["quay"], ["buy"], {"quay": [0]}, [[1]]
        land = small_land()
        web = Web(land)
        calls = [
            (lambda: land.yard(name), "name", name), (lambda: web.line_sheet(key), "key", key),
            (lambda: web.lines_from(place), "standing", place), (lambda: Land(number, 1, []), "value", number),
            (lambda: Work(place, "ann", (), (), 0, 0), "value", place),
        ]
        for call, attribute, value in calls:
            kept = repr(value)
            with self.assertRaises((StandError, Missing)) as caught:
                call()
            if isinstance(value, dict):
                value["quay"].append(1)
            else:
                value.append(1)
            self.assertEqual(repr(getattr(caught.exception, attribute)), kept)

    def test_numbers_of_any_size(self):
        number = 7 * 10 ** 9000
        for name, params in ALL.items():
            for value in (number, -number, ("buy", "quay", number), [{"a": (number,)}]):
                error = getattr(errors, name)(*([value] * len(params)))
                self.assertTrue(all(getattr(error, param) == value for param in params), name)
                self.assertIsInstance(str(error), str)
                self.assertIsInstance(repr(error), str)

    def test_no_value_too_many_and_none_too_few(self):
        for name, params in ALL.items():
            made = getattr(errors, name)
            with self.assertRaises(TypeError):
                made(*([0] * (len(params) + 1)))
            if params:
                with self.assertRaises(TypeError):
                    made(*([0] * (len(params) - 1)))

    def test_base_classes_have_no_code(self):
        self.assertFalse(hasattr(StandError(), "code"))
        self.assertFalse(hasattr(Missing(), "code"))

    def test_errors_are_caught_by_their_bases(self):
        for name, params in ALL.items():
            base = ValueError if name in OF_STAND_ERROR else LookupError
            with self.assertRaises(base):
                raise getattr(errors, name)(*([5] * len(params)))


if __name__ == "__main__":
    unittest.main()
