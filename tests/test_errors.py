import unittest

from everstock import errors
from everstock.errors import (
    Full, NoAsk, NoBook, NoGuide, NoHouse, NoKind, NoName, NoRound, NoSpare, NoStore, NoWay,
    StockError, Taken,
)
from tests.things import ANYTHING

WITH_FIELDS = ((NoAsk, "number"), (NoKind, "number"), (NoName, "name"), (Taken, "name"), (Full, "most"))
OF_A_TEXT = (NoHouse, NoStore, NoWay, NoSpare, NoGuide, NoBook, NoRound)
ALL = tuple(kind for kind, _ in WITH_FIELDS) + OF_A_TEXT


class Points2And9To16Refusals(unittest.TestCase):
    def test_stock_error_is_right_under_value_error(self):
        self.assertEqual(StockError.__bases__, (ValueError,))

    def test_each_is_right_under_stock_error(self):
        for kind in ALL:
            self.assertEqual(kind.__bases__, (StockError,), kind)

    def test_none_is_under_another(self):
        for kind in ALL:
            for other in ALL:
                self.assertEqual(issubclass(kind, other), kind is other, (kind, other))

    def test_names(self):
        told = ("NoAsk NoKind NoName Taken Full NoHouse NoStore NoWay NoSpare NoGuide NoBook"
                " NoRound").split()
        for name in told:
            self.assertEqual(getattr(errors, name).__name__, name)
            self.assertEqual(getattr(errors, name).__module__, "everstock.errors")
        self.assertEqual(len(set(ALL)), len(told))

    def test_fields_are_as_handed_in(self):
        for kind, field in WITH_FIELDS:
            for thing in ANYTHING:
                error = kind(thing)
                self.assertIs(getattr(error, field), thing)
                self.assertIsInstance(str(error), str)

    def test_what_is_handed_in_stays_as_it_was(self):
        for kind, field in WITH_FIELDS:
            thing = [1, {"a": [2]}]
            error = kind(thing)
            self.assertEqual(getattr(error, field), [1, {"a": [2]}])
            self.assertEqual(thing, [1, {"a": [2]}])

    def test_the_others_are_made_of_a_text(self):
        for kind in OF_A_TEXT:
            for text in ("", "a", "no such thing here"):
                self.assertEqual(str(kind(text)), text)

    def test_each_is_caught_by_its_name_as_any_refusal_and_as_value_error(self):
        for kind in ALL:
            for caught in (kind, StockError, ValueError):
                with self.assertRaises(caught):
                    raise kind("a")


if __name__ == "__main__":
    unittest.main()
