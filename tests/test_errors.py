"""Tests of endlots.errors: [10] and [21]."""

import inspect
import unittest

from endlots import errors
from odd import any_values

GIVEN = """InvalidNumber InvalidSizes InvalidStore InvalidValues InvalidLine InvalidSpace InvalidOutcome InvalidWeights
InvalidLot InvalidLots InvalidPayoff InvalidText InvalidSurrounding InvalidPath InvalidPart InvalidSides InvalidDraws
InvalidShare InvalidSteps InvalidRow InvalidPick InvalidDice InvalidBlend InvalidLimits InvalidPairs InvalidSet
InvalidName InvalidOther""".split()

FURTHER = {
    "TooMany": ["count"], "Outside": ["payoff"], "MayGoOn": ["store"], "NoThing": ["name"],
    "NotBrought": ["payoff", "table"], "MayStay": ["way", "rows"], "TwoLots": ["one", "other"],
    "NotKept": ["fees", "table"], "NoCommon": ["payoffs", "tables"], "ByZero": [], "NothingToUndo": [],
    "NothingToRedo": [],
}

ATTRIBUTES = {**{name: ["given"] for name in GIVEN}, **FURTHER}


class TestErrors(unittest.TestCase):
    def test_all_classes_and_no_others(self):
        found = {name for name, value in vars(errors).items() if inspect.isclass(value)}
        self.assertEqual(found, set(ATTRIBUTES) | {"EndError"})
        self.assertEqual(len(GIVEN), 28)

    def test_heirs(self):
        self.assertEqual(errors.EndError.__bases__, (ValueError,))
        for name in ATTRIBUTES:
            self.assertEqual(getattr(errors, name).__bases__, (errors.EndError,), name)
            self.assertEqual(getattr(errors, name).__module__, "endlots.errors")

    def test_attributes_by_position(self):
        for name, attributes in ATTRIBUTES.items():
            passed = [[place] for place, _ in enumerate(attributes)]
            error = getattr(errors, name)(*passed)
            self.assertEqual(set(vars(error)), set(attributes), name)
            for attribute, value in zip(attributes, passed):
                self.assertIs(getattr(error, attribute), value, name)

    def test_attributes_by_name(self):
        for name, attributes in ATTRIBUTES.items():
            passed = {attribute: [attribute] for attribute in attributes}
            error = getattr(errors, name)(**passed)
            self.assertEqual(set(vars(error)), set(attributes), name)
            for attribute in attributes:
                self.assertIs(getattr(error, attribute), passed[attribute], name)

    def test_attributes_are_the_very_values(self):
        for value in any_values():
            self.assertIs(errors.InvalidNumber(value).given, value)
            self.assertIs(errors.InvalidOther(given=value).given, value)
            self.assertIs(errors.NotBrought(None, value).table, value)

    def test_a_kept_list_is_not_copied(self):
        passed = [1]
        error = errors.InvalidLots(passed)
        passed.append(2)
        self.assertEqual(error.given, [1, 2])

    def test_caught(self):
        for name, attributes in ATTRIBUTES.items():
            made = getattr(errors, name)(*attributes)
            for caught in (getattr(errors, name), errors.EndError, ValueError):
                with self.assertRaises(caught):
                    raise made
            others = [getattr(errors, other) for other in ATTRIBUTES if other != name]
            self.assertNotIsInstance(made, tuple(others))


if __name__ == "__main__":
    unittest.main()
