"""Tests of farebreak.journeys: what is a journey (points 1, 2 and 5)."""

import unittest

from farebreak.errors import BadJourney, BadPlace, FareError
from farebreak.journeys import need_journey

NO_PLACES = ("", "a" * 13, "A", "Ost", "a b", "a\n", "a1", "\u00e4", None, True, False, 0, 7, -1)


def going(count):
    """A journey of that many places, to and fro between two of them."""
    return ["ost" if k % 2 == 0 else "west" for k in range(count)]


class Refusing(unittest.TestCase):

    def assert_refused(self, kind, places):
        ahead = list(places)
        with self.assertRaises(kind) as caught:
            need_journey(places)
        self.assertIs(type(caught.exception), kind)
        self.assertIsInstance(caught.exception, FareError)
        self.assertIsInstance(caught.exception, ValueError)
        self.assertEqual(places, ahead)


class JourneyTest(Refusing):

    def test_each_number_of_places_from_2_to_40(self):
        for count in range(2, 41):
            with self.subTest(count):
                self.assertEqual(need_journey(going(count)), going(count))

    def test_40_places_of_which_none_comes_again(self):
        places = ["p" + chr(ord("a") + k // 10) + chr(ord("a") + k % 10) for k in range(40)]
        self.assertEqual(need_journey(places), places)
        self.assert_refused(BadJourney, places + ["q"])

    def test_too_few_and_too_many(self):
        for count in (0, 1, 41, 42, 100):
            with self.subTest(count):
                self.assert_refused(BadJourney, going(count))

    def test_shortest_and_longest_places(self):
        places = ["a", "z", "a" * 12, "z" * 12, "a"]
        self.assertEqual(need_journey(places), places)

    def test_a_place_may_come_again_later(self):
        for places in (["a", "b", "a"], ["a", "b", "a", "b"], ["a", "b", "c", "a", "c"]):
            with self.subTest(places):
                self.assertEqual(need_journey(places), places)

    def test_the_same_neighbour(self):
        for places in (["a", "a"], ["a", "a", "b"], ["a", "b", "b"], ["a", "b", "b", "a"],
                       ["a", "b", "a", "a"], ["w" * 12, "w" * 12]):
            with self.subTest(places):
                self.assert_refused(BadJourney, places)

    def test_the_same_neighbour_at_each_number_of_the_longest(self):
        for at in range(1, 40):
            places = going(40)
            places[at] = places[at - 1]
            with self.subTest(at):
                self.assert_refused(BadJourney, places)

    def test_no_place(self):
        for thing in NO_PLACES:
            with self.subTest(repr(thing)):
                self.assert_refused(BadPlace, [thing, "b", "c"])
                self.assert_refused(BadPlace, ["a", thing, "c"])
                self.assert_refused(BadPlace, ["a", "b", thing])

    def test_no_place_at_each_number_of_the_longest(self):
        for at in range(40):
            places = going(40)
            places[at] = "Nord"
            with self.subTest(at):
                self.assert_refused(BadPlace, places)


class WhichFaultTest(Refusing):

    def test_how_many_goes_ahead_of_no_place(self):
        self.assert_refused(BadJourney, [""])
        self.assert_refused(BadJourney, [None])
        self.assert_refused(BadJourney, [7])
        self.assert_refused(BadJourney, ["A"] + going(40))
        self.assert_refused(BadJourney, [None] * 41)

    def test_no_place_goes_ahead_of_the_same_neighbour_at_one_number(self):
        self.assert_refused(BadPlace, ["A", "A"])
        self.assert_refused(BadPlace, ["", ""])
        self.assert_refused(BadPlace, [None, None, "b"])
        self.assert_refused(BadPlace, ["a", 7, 7])

    def test_the_first_number_with_a_fault_is_told(self):
        self.assert_refused(BadJourney, ["a", "a", "B"])
        self.assert_refused(BadJourney, ["a", "b", "b", None])
        self.assert_refused(BadPlace, ["A", "b", "b"])
        self.assert_refused(BadPlace, ["a", "B", "c", "c"])
        self.assert_refused(BadPlace, ["a", None, "a", "a"])

    def test_the_neighbour_of_the_last_is_not_the_first(self):
        self.assertEqual(need_journey(["a", "b", "a"]), ["a", "b", "a"])
        self.assert_refused(BadPlace, ["a", "b", "A"])


class NothingIsChangedTest(unittest.TestCase):

    def test_a_new_list_is_given(self):
        places = ["a", "b", "a"]
        given = need_journey(places)
        self.assertIs(type(given), list)
        self.assertEqual(given, places)
        self.assertIsNot(given, places)
        self.assertIsNot(given, need_journey(places))

    def test_changing_what_is_given_changes_nothing(self):
        places = ["a", "b", "a"]
        given = need_journey(places)
        given.append("c")
        given[0] = "x"
        self.assertEqual(places, ["a", "b", "a"])
        self.assertEqual(need_journey(places), ["a", "b", "a"])

    def test_changing_what_was_handed_in_changes_nothing(self):
        places = ["a", "b", "a"]
        given = need_journey(places)
        places.clear()
        self.assertEqual(given, ["a", "b", "a"])


if __name__ == "__main__":
    unittest.main()
