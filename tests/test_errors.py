import inspect
import unittest

from standworth import errors
from standworth.errors import Missing, NothingLeft, StandError

OF_STAND_ERROR = {
    "InvalidName": ["value"], "InvalidNumber": ["value"], "InvalidStanding": ["value"], "InvalidKey": ["value"],
    "InvalidYard": ["at"], "InvalidRoad": ["at"], "InvalidAsking": ["at"], "InvalidGiven": ["at"],
    "InvalidWorths": [], "InvalidAmounts": [], "InvalidSteps": [], "InvalidSeconds": [], "InvalidRota": ["at"],
    "InvalidEntry": ["at"], "InvalidTie": ["at"], "InvalidOwed": [], "InvalidFlow": [], "InvalidDeed": ["at"],
    "InvalidText": ["line", "why"], "DuplicateName": ["name"], "TooMany": ["most"], "AboveTop": ["name"],
    "OtherStandings": [], "OverRoom": ["key"], "Unbalanced": ["standing"], "NotBest": ["ring"],
    "NotFitting": ["key"], "NotReached": ["least", "greatest"], "NoRow": ["ring"], "NotFlow": ["standing"],
    "Uneven": ["total"], "Occupied": ["key"], "NotReversible": ["number"], "Over": ["at"],
}
OF_MISSING = {
    "UnknownName": ["name"], "UnknownStanding": ["standing"], "UnknownLine": ["key"], "UnknownNumber": ["number"],
}
OF_INDEX_ERROR = {"NothingLeft": []}
ALL = {**OF_STAND_ERROR, **OF_MISSING, **OF_INDEX_ERROR}


class ErrorsTest(unittest.TestCase):
    def test_direct_base_classes(self):
        self.assertEqual(StandError.__bases__, (ValueError,))
        self.assertEqual(Missing.__bases__, (LookupError,))
        self.assertEqual(NothingLeft.__bases__, (IndexError,))
        for name in OF_STAND_ERROR:
            self.assertEqual(getattr(errors, name).__bases__, (StandError,), name)
        for name in OF_MISSING:
            self.assertEqual(getattr(errors, name).__bases__, (Missing,), name)

    def test_there_are_no_other_classes(self):
        found = {name for name, value in vars(errors).items() if inspect.isclass(value)}
        self.assertEqual(found, {*ALL, "StandError", "Missing"})

    def test_parameters_by_place_and_by_name_are_attributes(self):
        values = [[None, {"a": [1]}], ("quay", True)]
        for name, params in ALL.items():
            told = dict(zip(params, values))
            made = getattr(errors, name)
            for error in (made(*told.values()), made(**told)):
                self.assertEqual({param: getattr(error, param) for param in params}, told, name)
                for param in params:
                    self.assertIs(getattr(error, param), told[param], name)
                self.assertEqual(error.code, name)
                self.assertIsInstance(str(error), str)
            self.assertEqual(list(inspect.signature(made).parameters), params, name)

    def test_no_value_too_many_and_none_too_few(self):
        for name, params in ALL.items():
            made = getattr(errors, name)
            with self.assertRaises(TypeError):
                made(*([0] * (len(params) + 1)))
            if params:
                with self.assertRaises(TypeError):
                    made(*([0] * (len(params) - 1)))

    def test_base_classes_have_no_code(self):
        self.assertFalse(hasattr(StandError(), "code"))
        self.assertFalse(hasattr(Missing(), "code"))

    def test_errors_are_caught_by_their_bases(self):
        for name, params in ALL.items():
            base = ValueError if name in OF_STAND_ERROR else LookupError
            with self.assertRaises(base):
                raise getattr(errors, name)(*([5] * len(params)))


if __name__ == "__main__":
    unittest.main()
