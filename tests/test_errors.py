"""agreetwo.errors, and [0.2] of what errors bear."""

import unittest

from agreetwo import errors
from tests.support import any_values

UNDER_AGREE = {
    "TooMany": (), "UnlikeHeadings": (), "Empty": (), "BadGroup": (), "BadDeed": (), "NothingDone": (),
    "BadRow": ("number",), "BadNumber": ("number",), "BadFamily": ("number",), "BadExchange": ("number",),
    "Unlike": ("number",), "BadHeading": ("heading",), "TooFew": ("row",), "BadText": ("place",),
    "BadName": ("name",), "Clash": ("names",), "Cored": ("core",), "Folds": ("pairs",),
    "Disagree": ("one", "other", "row"),
}
UNDER_MISSING = {"NoRow": ("row",), "UnknownColumn": ("column",), "UnknownName": ("name",), "NoMoment": ("number",)}


def each_error():
    for base, kinds in ((errors.AgreeError, UNDER_AGREE), (errors.Missing, UNDER_MISSING)):
        for name, arguments in kinds.items():
            yield base, getattr(errors, name), arguments


class Errors(unittest.TestCase):
    def test_bases(self):
        self.assertEqual(errors.AgreeError.__bases__, (ValueError,))
        self.assertEqual(errors.Missing.__bases__, (LookupError,))
        for base, kind, _ in each_error():
            self.assertEqual(kind.__bases__, (base,), kind)

    def test_called_and_attributes(self):
        for _, kind, arguments in each_error():
            error = kind(*[f"told {k}" for k in range(len(arguments))])
            self.assertEqual(error.called, kind.__name__)
            for k, name in enumerate(arguments):
                self.assertEqual(getattr(error, name), f"told {k}", kind)

    def test_as_many_arguments_as_told(self):
        for _, kind, arguments in each_error():
            with self.assertRaises(TypeError):
                kind(*range(len(arguments) + 1))
            if arguments:
                with self.assertRaises(TypeError):
                    kind(*range(len(arguments) - 1))

    def test_arguments_are_borne_whatever_they_are(self):
        for _, kind, arguments in each_error():
            for name in arguments:
                for value, again in zip(any_values(), any_values()):
                    error = kind(*[value if other == name else 0 for other in arguments])
                    self.assertEqual(getattr(error, name), again)
                    self.assertIs(getattr(error, name).__class__, again.__class__)

    def test_copies_of_lists_and_dicts_at_any_depth(self):
        for _, kind, arguments in each_error():
            for k, name in enumerate(arguments):
                inner, table = [1, True], {"a": [2]}
                value = [inner, (inner, table), {"b": inner}]
                told = [0] * len(arguments)
                told[k] = value
                error = kind(*told)
                inner.append(5)
                table["a"].append(6)
                value.append(7)
                borne = getattr(error, name)
                self.assertEqual(borne, [[1, True], ([1, True], {"a": [2]}), {"b": [1, True]}])
                self.assertIs(borne[0][1], True)
                self.assertIsNot(borne[0], borne[1][0])
                self.assertIsNot(borne[0], borne[2]["b"])

    def test_nothing_that_was_passed_is_kept(self):
        for _, kind, arguments in each_error():
            value = [1]
            error = kind(*[value for _ in arguments])
            self.assertFalse([kept for kept in error.args if kept is value])

    def test_true_and_false_stay_what_they_are(self):
        self.assertIs(errors.BadNumber(True).number, True)
        self.assertIs(errors.BadNumber((0, False)).number[1], False)
        self.assertIs(errors.BadNumber({"a": True}).number["a"], True)
        self.assertIs(list(errors.BadNumber({True: 1}).number)[0], True)


if __name__ == "__main__":
    unittest.main()
