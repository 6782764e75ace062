"""[0.18]: the errors."""

import unittest

from shownpart import errors
from tests.checks import Case

WITH_MESSAGE = (
    "InvalidName", "InvalidTerm", "InvalidFact", "InvalidBook", "InvalidWorld", "InvalidOperation",
    "InvalidCode", "InvalidEdit", "ParseError", "InvalidCommand",
)
WITH_VALUE = {
    "InvalidNumber": (IndexError, "value"),
    "UnknownName": (KeyError, "name"),
    "Unfit": (RuntimeError, "paper"),
    "TooMany": (OverflowError, "limit"),
    "NothingToUndo": (LookupError, "many"),
}


class TestErrors(Case):
    def test_part_error(self):
        self.assertEqual(errors.PartError.__bases__, (ValueError,))
        self.assertEqual(str(errors.PartError("what is wrong")), "what is wrong")

    def test_those_with_a_message(self):
        for name in WITH_MESSAGE:
            kind = getattr(errors, name)
            self.assertEqual(kind.__bases__, (errors.PartError,))
            self.assertEqual(str(kind("what is wrong")), "what is wrong")
            self.assertEqual(self.raises(kind, raiser(kind("why"))).args, ("why",))

    def test_those_with_a_value(self):
        for name, (base, attribute) in WITH_VALUE.items():
            kind = getattr(errors, name)
            self.assertEqual(kind.__bases__, (base,))
            for value in (0, -3, "a", None, ("fit", 1), [1], {"a": 1}):
                error = kind(value)
                self.assertIs(getattr(error, attribute), value)
                self.assertIs(getattr(self.raises(kind, raiser(error)), attribute), value)
                self.assertEqual(list(vars(error)), [attribute])

    def test_none_is_derived_from_another_one(self):
        kinds = [getattr(errors, name) for name in (*WITH_MESSAGE, *WITH_VALUE)]
        for one in kinds:
            for other in kinds:
                self.assertEqual(issubclass(one, other), one is other)

    def test_only_those_with_a_message_are_part_errors(self):
        for name in WITH_MESSAGE:
            self.assertFalse(issubclass(getattr(errors, name), LookupError))
        for name in WITH_VALUE:
            self.assertFalse(issubclass(getattr(errors, name), ValueError))
        self.assertFalse(issubclass(errors.NothingToUndo, (IndexError, KeyError)))

    def test_all_of_them_are_defined_there(self):
        found = [name for name, value in vars(errors).items() if isinstance(value, type)]
        self.assertEqual(sorted(found), sorted(["PartError", *WITH_MESSAGE, *WITH_VALUE]))
        for name in found:
            self.assertEqual(getattr(errors, name).__module__, "shownpart.errors")


def raiser(error):
    def action():
        raise error
    return action


if __name__ == "__main__":
    unittest.main()
