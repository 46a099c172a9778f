"""Point 3, and the interface's rows of refusals and bounds."""

import unittest

from tests.samples import anything
from websplit import bounds, errors

REFUSALS = (
    (errors.NoText, ValueError, ("row",)),
    (errors.NoBatch, ValueError, ("at", "why")),
    (errors.NoQuestion, ValueError, ("at",)),
    (errors.BadName, ValueError, ("asked",)),
    (errors.NoRow, ValueError, ("asked",)),
    (errors.NoKnot, KeyError, ("asked",)),
    (errors.NoTie, KeyError, ("asked",)),
    (errors.NoName, KeyError, ("name",)),
    (errors.Known, KeyError, ("name",)),
    (errors.NoMoment, IndexError, ("asked",)),
    (errors.NoPlace, IndexError, ("asked",)),
    (errors.Gone, LookupError, ("begin",)),
    (errors.NoTuple, LookupError, ("asked",)),
    (errors.Fell, RuntimeError, ("step",)),
    (errors.Busy, RuntimeError, ()),
    (errors.Moving, RuntimeError, ("slot",)),
    (errors.NoMove, RuntimeError, ()),
    (errors.NoPlan, ArithmeticError, ()),
    (errors.Home, ArithmeticError, ("number",)),
    (errors.TooLong, OverflowError, ("most",)),
)


class Refusals(unittest.TestCase):
    def test_stand_straight_under_the_told_error(self):
        for refusal, above, _ in REFUSALS:
            self.assertEqual(refusal.__bases__, (above,), refusal)

    def test_are_none_of_the_others(self):
        for refusal, _, fields in REFUSALS:
            made = refusal(*fields)
            others = [other for other, _, _ in REFUSALS if other is not refusal]
            self.assertEqual(len(others), len(REFUSALS) - 1)
            for other in others:
                self.assertNotIsInstance(made, other)

    def test_all_of_the_module_are_told(self):
        told = {refusal.__name__ for refusal, _, _ in REFUSALS}
        self.assertEqual({name for name in vars(errors) if not name.startswith("__")}, told)

    def test_are_made_of_their_fields_by_places_and_by_names(self):
        for refusal, _, fields in REFUSALS:
            for told in anything():
                values = [told] + ["second"] * (len(fields) - 1)
                values = values[:len(fields)]
                by_place = refusal(*values)
                by_name = refusal(**dict(zip(fields, values)))
                for field, value in zip(fields, values):
                    self.assertIs(getattr(by_place, field), value)
                    self.assertIs(getattr(by_name, field), value)

    def test_two_fields_stand_in_the_told_order(self):
        made = errors.NoBatch(4, "taken")
        self.assertEqual((made.at, made.why), (4, "taken"))

    def test_are_caught_by_the_error_above(self):
        for refusal, above, fields in REFUSALS:
            with self.assertRaises(above):
                raise refusal(*fields)


class Bounds(unittest.TestCase):
    def test_are_as_told(self):
        told = {
            "MOST_KNOTS": 60, "MOST_TIES": 120, "MOST_WORTHS": 6, "MOST_DEEDS": 20,
            "SLOTS": 8, "MOST_HOUSES": 6, "MOST_ROUNDS": 100,
        }
        self.assertEqual({name: getattr(bounds, name) for name in told}, told)


if __name__ == "__main__":
    unittest.main()
