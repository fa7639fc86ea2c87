"""Tests of the interface: names, arguments, and where each is defined."""

import inspect
import unittest

from farebreak import journeys, notes, partings, stretches, tariff

FUNCTIONS = (
    (tariff, "is_place", ("thing",)),
    (tariff, "is_price", ("thing",)),
    (journeys, "need_journey", ("places",)),
    (stretches, "fault", ("tariff", "journey", "at", "to")),
    (stretches, "held", ("tariff", "journey")),
    (partings, "price_of", ("tariff", "journey", "cuts")),
    (partings, "left", ("tariff", "journey")),
    (partings, "parted", ("tariff", "journey")),
    (partings, "priced", ("tariff", "journey")),
    (notes, "bill", ("tariff", "journey")),
    (notes, "lines_of", ("tariff",)),
    (notes, "tariff_of", ("lines",)),
)


def arguments(thing):
    return [
        (name, told.kind, told.default)
        for name, told in inspect.signature(thing).parameters.items()
    ]


def plain(*names):
    """What arguments() gives for names that are passed either way."""
    return [
        (name, inspect.Parameter.POSITIONAL_OR_KEYWORD, inspect.Parameter.empty)
        for name in names
    ]


class InterfaceTest(unittest.TestCase):

    def test_functions_take_what_is_listed(self):
        for module, name, listed in FUNCTIONS:
            with self.subTest(name):
                self.assertEqual(arguments(getattr(module, name)), plain(*listed))

    def test_tariff_takes_what_is_listed(self):
        self.assertEqual(arguments(tariff.Tariff), plain("rows"))
        made = tariff.Tariff([])
        self.assertEqual(arguments(made.put), plain("here", "there", "price"))
        self.assertEqual(arguments(made.price), plain("here", "there"))
        self.assertEqual(arguments(made.told), plain())

    def test_each_is_defined_in_its_own_file(self):
        for module, name, _ in FUNCTIONS + ((tariff, "Tariff", ()),):
            with self.subTest(name):
                self.assertEqual(getattr(module, name).__module__, module.__name__)

    def test_methods_stand_in_the_class_itself(self):
        for name in ("put", "price", "told"):
            self.assertIn(name, vars(tariff.Tariff))

    def test_arguments_can_be_told_by_name(self):
        made = tariff.Tariff(rows=[("ost", "west", 3)])
        self.assertIsNone(made.put(here="west", there="ost", price=4))
        self.assertEqual(made.price(here="west", there="ost"), 4)
        self.assertIs(tariff.is_place(thing="ost"), True)
        self.assertIs(tariff.is_price(thing=3), True)
        self.assertEqual(journeys.need_journey(places=["ost", "west"]), ["ost", "west"])

    def test_arguments_of_the_other_functions_can_be_told_by_name(self):
        asked = {"tariff": tariff.Tariff([("ost", "west", 3)]), "journey": ["ost", "west"]}
        self.assertIsNone(stretches.fault(at=0, to=1, **asked))
        self.assertEqual(stretches.held(**asked), [[1], []])
        self.assertEqual(partings.price_of(cuts=[0, 1], **asked), 3)
        self.assertEqual(partings.left(**asked), [3, 0])
        self.assertEqual(partings.parted(**asked), [0, 1])
        self.assertEqual(partings.priced(**asked), (3, [0, 1]))
        self.assertEqual(notes.bill(**asked), ["ost west 3", "all 3"])
        self.assertEqual(notes.lines_of(tariff=asked["tariff"]), ["ost west 3"])
        self.assertEqual(notes.tariff_of(lines=["ost west 3"]).told(), [("ost", "west", 3)])


if __name__ == "__main__":
    unittest.main()
