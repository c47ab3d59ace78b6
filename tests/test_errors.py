"""[1], [5]: the classes of errors."""

from unittest import TestCase, main

import cardpanel.errors
from cardpanel.errors import ShowError
from cardpanel.panels import Panel

WITH_VALUE = [
    "InvalidEntry", "InvalidEntries", "InvalidRow", "InvalidRows", "InvalidPanel", "InvalidField", "UnknownEntry",
    "TakenEntry", "InvalidLot", "InvalidLots", "InvalidCount", "InvalidTable", "InvalidTree", "Unlike", "Clash",
    "InvalidBook", "InvalidLine", "InvalidRounds", "InvalidChances", "InvalidStewards", "LastRow", "InvalidLive",
    "InvalidScript", "InvalidLog", "InvalidText",
]
WITHOUT = ["NothingToUndo", "NothingToRedo"]


def classes(names):
    return [getattr(cardpanel.errors, name) for name in names]


class Errors(TestCase):
    def test_base_is_a_value_error(self):
        self.assertTrue(issubclass(ShowError, ValueError))
        self.assertIsInstance(ShowError(), ValueError)

    def test_each_is_defined_here_and_derived_from_the_base_alone(self):
        for each in classes(WITH_VALUE + WITHOUT):
            self.assertEqual(each.__module__, "cardpanel.errors")
            self.assertEqual(each.__bases__, (ShowError,))

    def test_none_is_derived_from_another(self):
        every = classes(WITH_VALUE + WITHOUT)
        for each in every:
            self.assertEqual([other for other in every if issubclass(each, other)], [each])

    def test_value_by_position_and_by_name(self):
        anything = [None, True, 0, -7, "text", ["a"], ("a", []), {"a": 1}, Panel(["a"], [["a"]]), ShowError()]
        for each in classes(WITH_VALUE):
            for value in anything:
                self.assertIs(each(value).value, value)
                self.assertIs(each(value=value).value, value)

    def test_value_is_none_without_one(self):
        for each in classes(WITH_VALUE):
            self.assertIsNone(each().value)

    def test_others_take_no_argument(self):
        for each in classes(WITHOUT):
            self.assertIsInstance(each(), ShowError)
            self.assertFalse(hasattr(each(), "value"))

    def test_raised_and_caught(self):
        for each in classes(WITH_VALUE):
            for base in (each, ShowError, ValueError):
                with self.assertRaises(base):
                    raise each(["x"])
        for each in classes(WITHOUT):
            with self.assertRaises(ShowError):
                raise each()


if __name__ == "__main__":
    main()
