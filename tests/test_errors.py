"""ringbars.errors: the classes, their fields and their places."""

import unittest

from ringbars import errors
from ringbars.errors import BadRing, BadText, Missing, NoBar, NoCorner, NoDiagonal, NoName
from ringbars.errors import Nothing, NoPin, NoTriangle, RingError, TooMany
from tests.common import HUGE, ODD, Case

PARTS = ("BadRing", "BadLot", "BadCutting", "BadShape", "BadRound", "BadCell", "BadLineUp",
         "BadSpans", "BadTies", "BadBook", "BadFact", "BadWeb", "BadNumber", "BadPaper",
         "BadDesk", "Misfit")
MISSING = (NoBar, NoCorner, NoDiagonal, NoTriangle, NoPin, NoName)
FIELDS = {"Twice": ("value",), "TooLong": ("bar",), "Level": ("lot",), "Impossible": ("paper",),
          "TooMany": ("what", "most"), "Nothing": (), "BadText": ("line", "item"),
          "BadLine": ("line", "error"), "Missing": ("value",)}


class ErrorsTest(Case):

    def test_base(self):
        self.assertEqual(RingError.__bases__, (ValueError,))

    def test_no_other_classes(self):
        told = {name for name, value in vars(errors).items() if isinstance(value, type)}
        right = set(PARTS) | set(FIELDS) | {kind.__name__ for kind in MISSING} | {"RingError"}
        self.assertEqual(told, right)

    def test_places(self):
        for name in PARTS + tuple(FIELDS):
            self.assertEqual(getattr(errors, name).__bases__, (RingError,), name)
        for kind in MISSING:
            self.assertEqual(kind.__bases__, (Missing,))

    def fields_are_kept(self, kind, names):
        for value in ODD:
            values = [value, [value]][:len(names)]
            by_place = kind(*values)
            by_name = kind(**dict(zip(names, values)))
            for error in (by_place, by_name):
                self.assertEqual(list(vars(error)), list(names))
                for name, right in zip(names, values):
                    self.assertIs(getattr(error, name), right)

    def test_fields(self):
        for name in PARTS:
            self.fields_are_kept(getattr(errors, name), ("part",))
        for name, names in FIELDS.items():
            self.fields_are_kept(getattr(errors, name), names)
        for kind in MISSING:
            self.fields_are_kept(kind, ("value",))

    def test_numbers_of_fields(self):
        for kind, values in ((BadRing, ()), (BadRing, (1, 2)), (TooMany, (1,)), (NoBar, ()),
                             (BadText, (0,))):
            with self.assertRaises(TypeError):
                kind(*values)
        self.assertEqual(vars(Nothing()), {})

    def test_great_values_can_be_told(self):
        with self.assertRaises(NoBar) as caught:
            raise NoBar(HUGE)
        self.assertEqual(caught.exception.value, HUGE)

    def test_caught_as_ring_error(self):
        with self.assertRaises(RingError):
            raise Nothing()
        with self.assertRaises(Missing):
            raise NoPin("p")
        with self.assertRaises(ValueError):
            raise BadText(0, 3)


if __name__ == "__main__":
    unittest.main()
