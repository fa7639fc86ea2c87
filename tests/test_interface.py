"""Tests of the interface: names, arguments, and where each is defined."""

import inspect
import unittest

from farebreak import journeys, tariff


def arguments(thing):
    return [
        (name, told.kind, told.default)
        for name, told in inspect.signature(thing).parameters.items()
    ]


def plain(*names):
    """What arguments() gives for names that are passed either way."""
    return [
        (name, inspect.Parameter.POSITIONAL_OR_KEYWORD, inspect.Parameter.empty)
        for name in names
    ]


class InterfaceTest(unittest.TestCase):

    def test_functions_take_what_is_listed(self):
        self.assertEqual(arguments(tariff.is_place), plain("thing"))
        self.assertEqual(arguments(tariff.is_price), plain("thing"))
        self.assertEqual(arguments(journeys.need_journey), plain("places"))

    def test_tariff_takes_what_is_listed(self):
        self.assertEqual(arguments(tariff.Tariff), plain("rows"))
        made = tariff.Tariff([])
        self.assertEqual(arguments(made.put), plain("here", "there", "price"))
        self.assertEqual(arguments(made.price), plain("here", "there"))
        self.assertEqual(arguments(made.told), plain())

    def test_each_is_defined_in_its_own_file(self):
        for thing in (tariff.is_place, tariff.is_price, tariff.Tariff):
            self.assertEqual(thing.__module__, "farebreak.tariff")
        self.assertEqual(journeys.need_journey.__module__, "farebreak.journeys")

    def test_methods_stand_in_the_class_itself(self):
        for name in ("put", "price", "told"):
            self.assertIn(name, vars(tariff.Tariff))

    def test_arguments_can_be_told_by_name(self):
        made = tariff.Tariff(rows=[("ost", "west", 3)])
        self.assertIsNone(made.put(here="west", there="ost", price=4))
        self.assertEqual(made.price(here="west", there="ost"), 4)
        self.assertIs(tariff.is_place(thing="ost"), True)
        self.assertIs(tariff.is_price(thing=3), True)
        self.assertEqual(journeys.need_journey(places=["ost", "west"]), ["ost", "west"])


if __name__ == "__main__":
    unittest.main()
