"""Tests of farebreak.stretches: prices, faults and what holds (points 6 to 8)."""

import unittest

from farebreak.errors import BadCuts
from farebreak.partings import price_of
from farebreak.stretches import fault, held
from farebreak.tariff import Tariff
from tests.helpers import TOP, Refusing, along, cases, names, plainly_holds


class PriceTest(unittest.TestCase):

    def test_by_the_places_at_the_two_ends_whatever_lies_between(self):
        tariff = Tariff([("a", "d", 5)])
        for journey in (["a", "d"], ["a", "b", "d"], ["a", "b", "c", "d"], ["a", "x", "y", "z", "d"]):
            with self.subTest(journey):
                last = len(journey) - 1
                self.assertIsNone(fault(tariff, journey, 0, last))
                self.assertEqual(price_of(tariff, journey, [0, last]), 5)

    def test_it_is_not_the_sum_of_what_lies_between(self):
        tariff = Tariff([("a", "b", 3), ("b", "c", 4), ("a", "c", 6)])
        self.assertEqual(price_of(tariff, ["a", "b", "c"], [0, 2]), 6)
        self.assertEqual(price_of(tariff, ["a", "b", "c"], [0, 1, 2]), 7)

    def test_a_way_that_has_no_price(self):
        tariff = Tariff([("a", "b", 3), ("b", "c", 4)])
        self.assertEqual(fault(tariff, ["a", "b", "c"], 0, 2), ("price",))
        self.assertEqual(held(tariff, ["a", "b", "c"]), [[1], [2], []])
        self.assertEqual(fault(Tariff([]), ["a", "b"], 0, 1), ("price",))
        self.assertEqual(held(Tariff([]), ["a", "b", "a"]), [[], [], []])

    def test_the_price_nought_is_a_price(self):
        tariff = Tariff([("a", "b", 0)])
        self.assertIsNone(fault(tariff, ["a", "b"], 0, 1))
        self.assertEqual(held(tariff, ["a", "b"]), [[1], []])

    def test_the_way_back_is_another_way(self):
        tariff = Tariff([("a", "b", 3)])
        self.assertIsNone(fault(tariff, ["a", "b"], 0, 1))
        self.assertEqual(fault(tariff, ["b", "a"], 0, 1), ("price",))
        self.assertEqual(held(tariff, ["b", "a"]), [[], []])
        tariff.put("b", "a", 9)
        self.assertEqual(price_of(tariff, ["a", "b"], [0, 1]), 3)
        self.assertEqual(price_of(tariff, ["b", "a"], [0, 1]), 9)
        self.assertEqual(price_of(tariff, ["a", "b", "a"], [0, 1, 2]), 12)

    def test_a_journey_of_40_places(self):
        journey = names(40)
        tariff = along(journey, {(0, 39): 7, (38, 39): 7, (0, 1): 8})
        self.assertEqual(fault(tariff, journey, 0, 39), ("dearer", 0, 1))
        self.assertEqual(fault(tariff, journey, 1, 39), ("price",))
        self.assertIsNone(fault(tariff, journey, 38, 39))
        tariff = along(journey, {(0, 39): 7})
        self.assertIsNone(fault(tariff, journey, 0, 39))
        self.assertEqual(price_of(tariff, journey, [0, 39]), 7)


class TwiceTest(unittest.TestCase):

    def test_at_its_ends_there_is_no_price(self):
        tariff = Tariff([("a", "b", 1), ("b", "a", 1)])
        self.assertEqual(fault(tariff, ["a", "b", "a"], 0, 2), ("price",))

    def test_at_its_beginning_and_within(self):
        tariff = Tariff([("a", "c", 5)])
        journey = ["a", "b", "a", "c"]
        self.assertEqual(fault(tariff, journey, 0, 3), ("twice", 2))
        self.assertIsNone(fault(tariff, journey, 2, 3))

    def test_at_its_end_and_within(self):
        tariff = Tariff([("a", "c", 5)])
        journey = ["a", "c", "b", "c"]
        self.assertEqual(fault(tariff, journey, 0, 3), ("twice", 3))
        self.assertIsNone(fault(tariff, journey, 0, 1))

    def test_within(self):
        tariff = Tariff([("a", "d", 5)])
        self.assertEqual(fault(tariff, ["a", "b", "c", "b", "d"], 0, 4), ("twice", 3))

    def test_the_least_number_is_told(self):
        tariff = Tariff([("a", "d", 5)])
        journey = ["a", "b", "c", "b", "c", "a", "d"]
        self.assertEqual(fault(tariff, journey, 0, 6), ("twice", 3))
        # The pair that begins first is not the one that is told.
        journey = ["a", "b", "c", "b", "a", "d"]
        self.assertEqual(fault(tariff, journey, 0, 5), ("twice", 3))

    def test_it_is_a_number_of_the_journey_and_not_of_the_stretch(self):
        tariff = Tariff([("b", "d", 5)])
        journey = ["x", "a", "b", "c", "b", "d"]
        self.assertEqual(fault(tariff, journey, 2, 5), ("twice", 4))
        self.assertIsNone(fault(tariff, journey, 4, 5))

    def test_what_is_outside_of_the_stretch_says_nothing(self):
        tariff = Tariff([("b", "d", 5)])
        journey = ["d", "c", "b", "a", "c", "d", "b", "a"]
        self.assertIsNone(fault(tariff, journey, 2, 5))
        self.assertEqual(held(tariff, journey), [[], [], [5], [], [], [], [], []])

    def test_in_a_journey_of_40_places(self):
        journey = names(39)
        journey.insert(38, journey[1])
        tariff = Tariff([(journey[0], journey[39], 5)])
        self.assertEqual(fault(tariff, journey, 0, 39), ("twice", 38))


class DearerTest(unittest.TestCase):

    def setUp(self):
        self.journey = ["a", "b", "c", "d"]

    def test_a_stretch_within_of_a_greater_price(self):
        for at, to in ((0, 1), (0, 2), (1, 2), (1, 3), (2, 3)):
            with self.subTest(at=at, to=to):
                tariff = along(self.journey, {(0, 3): 5, (at, to): 6})
                self.assertEqual(fault(tariff, self.journey, 0, 3), ("dearer", at, to))
                self.assertNotIn(3, held(tariff, self.journey)[0])

    def test_a_stretch_within_of_the_same_price_is_let(self):
        for price in (0, 5, TOP):
            tariff = along(self.journey, {(0, 3): price, (0, 1): price, (0, 2): price,
                                          (1, 2): price, (1, 3): price, (2, 3): price})
            with self.subTest(price):
                self.assertIsNone(fault(tariff, self.journey, 0, 3))
                self.assertEqual(held(tariff, self.journey), [[1, 2, 3], [2, 3], [3], []])

    def test_a_stretch_within_of_no_price_says_nothing(self):
        tariff = along(self.journey, {(0, 3): 0})
        self.assertIsNone(fault(tariff, self.journey, 0, 3))
        self.assertEqual(held(tariff, self.journey), [[3], [], [], []])

    def test_a_stretch_within_of_no_price_does_not_hide_one_within_it(self):
        journey = ["a", "b", "c", "d", "e"]
        tariff = along(journey, {(0, 4): 5, (2, 3): 6})
        self.assertEqual(fault(tariff, journey, 0, 4), ("dearer", 2, 3))

    def test_a_stretch_within_that_does_not_hold_itself_is_looked_at_too(self):
        tariff = along(self.journey, {(0, 3): 5, (1, 3): 6, (1, 2): 7})
        self.assertEqual(fault(tariff, self.journey, 1, 3), ("dearer", 1, 2))
        self.assertEqual(fault(tariff, self.journey, 0, 3), ("dearer", 1, 2))
        tariff = along(self.journey, {(0, 3): 5, (1, 3): 6, (2, 3): 7})
        self.assertEqual(fault(tariff, self.journey, 0, 3), ("dearer", 1, 3))

    def test_the_least_beginning_then_the_least_end(self):
        prices = {(0, 3): 5, (0, 1): 6, (0, 2): 9, (1, 2): 8, (1, 3): 7, (2, 3): 6}
        for dearest in ((0, 1), (0, 2), (1, 2), (1, 3), (2, 3)):
            tariff = along(self.journey, prices)
            with self.subTest(dearest):
                self.assertEqual(fault(tariff, self.journey, 0, 3), ("dearer",) + dearest)
            del prices[dearest]

    def test_the_least_beginning_goes_ahead_of_a_lesser_end(self):
        journey = ["a", "b", "c", "d", "e"]
        tariff = along(journey, {(0, 4): 5, (0, 3): 6, (1, 2): 9})
        self.assertEqual(fault(tariff, journey, 0, 4), ("dearer", 0, 3))

    def test_numbers_of_the_journey_and_not_of_the_stretch(self):
        journey = ["x", "y"] + self.journey + ["z"]
        tariff = along(journey, {(2, 5): 5, (3, 4): 6})
        self.assertEqual(fault(tariff, journey, 2, 5), ("dearer", 3, 4))

    def test_a_greater_price_outside_of_the_stretch_says_nothing(self):
        journey = ["x"] + self.journey + ["z"]
        tariff = along(journey, {(1, 4): 5, (0, 4): 9, (1, 5): 9, (0, 1): 9, (4, 5): 9, (0, 5): 9})
        self.assertIsNone(fault(tariff, journey, 1, 4))

    def test_the_way_back_says_nothing(self):
        tariff = Tariff([("a", "c", 5), ("b", "a", 9), ("c", "b", 9), ("c", "a", 9)])
        self.assertIsNone(fault(tariff, ["a", "b", "c"], 0, 2))

    def test_one_more_than_the_price_is_enough(self):
        tariff = along(self.journey, {(0, 3): TOP - 1, (1, 2): TOP})
        self.assertEqual(fault(tariff, self.journey, 0, 3), ("dearer", 1, 2))
        tariff = along(self.journey, {(0, 3): 0, (1, 2): 1})
        self.assertEqual(fault(tariff, self.journey, 0, 3), ("dearer", 1, 2))

    def test_the_last_neighbours_in_a_journey_of_40_places(self):
        journey = names(40)
        tariff = along(journey, {(0, 39): 5, (38, 39): 6})
        self.assertEqual(fault(tariff, journey, 0, 39), ("dearer", 38, 39))


class FaultOrderTest(unittest.TestCase):

    def test_no_price_goes_ahead_of_a_place_twice(self):
        self.assertEqual(fault(Tariff([]), ["a", "b", "a", "c"], 0, 3), ("price",))

    def test_no_price_goes_ahead_of_a_greater_price(self):
        tariff = Tariff([("a", "b", 9)])
        self.assertEqual(fault(tariff, ["a", "b", "c"], 0, 2), ("price",))

    def test_a_place_twice_goes_ahead_of_a_greater_price(self):
        tariff = Tariff([("a", "c", 5), ("a", "b", 9), ("b", "a", 9)])
        self.assertEqual(fault(tariff, ["a", "b", "a", "c"], 0, 3), ("twice", 2))

    def test_all_three(self):
        journey = ["a", "b", "a", "c"]
        tariff = Tariff([("a", "b", 9)])
        self.assertEqual(fault(tariff, journey, 0, 3), ("price",))
        tariff.put("a", "c", 5)
        self.assertEqual(fault(tariff, journey, 0, 3), ("twice", 2))
        self.assertEqual(fault(tariff, ["a", "b", "c"], 0, 2), ("dearer", 0, 1))


class KindsTest(unittest.TestCase):

    def test_a_fault_is_a_tuple_of_a_text_and_numbers(self):
        tariff = Tariff([("a", "c", 5), ("a", "b", 9)])
        for journey, at, to, kinds in (
                (["b", "c"], 0, 1, [str]),
                (["a", "b", "a", "c"], 0, 3, [str, int]),
                (["a", "b", "c"], 0, 2, [str, int, int])):
            told = fault(tariff, journey, at, to)
            with self.subTest(told):
                self.assertIs(type(told), tuple)
                self.assertEqual([type(thing) for thing in told], kinds)

    def test_held_is_a_list_of_lists_of_numbers(self):
        told = held(Tariff([("a", "b", 9)]), ["a", "b"])
        self.assertIs(type(told), list)
        for ends in told:
            self.assertIs(type(ends), list)
        self.assertIs(type(told[0][0]), int)


class BadNumbersTest(Refusing):

    def test_numbers_that_tell_no_stretch(self):
        tariff = Tariff([("a", "b", 1), ("b", "c", 1), ("a", "c", 1)])
        for at, to in ((-1, 0), (-1, 1), (-1, 2), (-3, -1), (-3, 2), (-2, -1), (-10 ** 20, 1),
                       (0, 0), (1, 1), (2, 2), (1, 0), (2, 0), (2, 1), (0, -1), (1, -1),
                       (0, 3), (1, 3), (2, 3), (0, 4), (3, 4), (3, 3), (3, 2), (5, 7),
                       (0, 10 ** 20), (10 ** 20, 10 ** 20 + 1)):
            with self.subTest(at=at, to=to):
                self.assert_refused(BadCuts, fault, tariff, ["a", "b", "c"], at, to)

    def test_numbers_that_python_does_not_write_in_figures(self):
        self.assert_refused(BadCuts, fault, Tariff([]), ["a", "b"], 0, 10 ** 5000)
        self.assert_refused(BadCuts, fault, Tariff([]), ["a", "b"], -10 ** 5000, 1)

    def test_all_numbers_of_a_short_journey_tell_one(self):
        tariff = Tariff([("a", "b", 1), ("b", "c", 1), ("a", "c", 1)])
        for at, to in ((0, 1), (0, 2), (1, 2)):
            self.assertIsNone(fault(tariff, ["a", "b", "c"], at, to))

    def test_the_ends_of_the_shortest_and_the_longest_journey(self):
        for journey in (names(2), names(40)):
            last = len(journey) - 1
            tariff = along(journey, {(0, last): 1})
            self.assertIsNone(fault(tariff, journey, 0, last))
            self.assert_refused(BadCuts, fault, tariff, journey, 0, last + 1)
            self.assert_refused(BadCuts, fault, tariff, journey, last, last)
            self.assert_refused(BadCuts, fault, tariff, journey, last, last + 1)
            self.assert_refused(BadCuts, fault, tariff, journey, -1, last)

    def test_also_where_the_stretch_would_have_a_fault(self):
        self.assert_refused(BadCuts, fault, Tariff([]), ["a", "b"], 1, 0)
        self.assert_refused(BadCuts, fault, Tariff([]), ["a", "b"], 0, 2)


class HeldTest(unittest.TestCase):

    def test_for_each_number_rising_the_last_one_too(self):
        tariff = Tariff([("a", "b", 1), ("b", "c", 2), ("c", "d", 1), ("a", "c", 2),
                         ("b", "d", 1), ("a", "d", 2)])
        self.assertEqual(held(tariff, ["a", "b", "c", "d"]), [[1, 2, 3], [2], [3], []])

    def test_no_stretch_holds(self):
        self.assertEqual(held(Tariff([("b", "a", 1)]), ["a", "b"]), [[], []])
        journey = names(40)
        self.assertEqual(held(Tariff([]), journey), [[]] * 40)

    def test_a_place_that_comes_again(self):
        tariff = Tariff([("a", "b", 1), ("b", "a", 1), ("b", "c", 1), ("a", "c", 1)])
        self.assertEqual(held(tariff, ["a", "b", "a", "c"]), [[1], [2, 3], [3], []])
        self.assertEqual(held(tariff, ["b", "a", "c", "b"]), [[1, 2], [2, 3], [], []])

    def test_a_journey_of_40_places_to_and_fro(self):
        journey = ["a", "b"] * 20
        tariff = Tariff([("a", "b", 1), ("b", "a", 2)])
        self.assertEqual(held(tariff, journey), [[k + 1] for k in range(39)] + [[]])

    def test_a_journey_of_40_places_over_13(self):
        places = names(13)
        tariff = Tariff([(here, there, 4) for here in places for there in places if here != there])
        journey = (places * 4)[:40]
        expected = [list(range(k + 1, min(k + 13, 40))) for k in range(40)]
        self.assertEqual(held(tariff, journey), expected)

    def test_as_the_words_say_for_small_journeys(self):
        for tariff, journey in cases(7, 400):
            count = len(journey)
            with self.subTest(journey=journey, rows=tariff.told()):
                expected = [[to for to in range(at + 1, count)
                             if plainly_holds(tariff, journey, at, to)]
                            for at in range(count)]
                self.assertEqual(held(tariff, journey), expected)

    def test_just_where_there_is_no_fault(self):
        for tariff, journey in cases(8, 200):
            told = held(tariff, journey)
            for at in range(len(journey)):
                for to in range(at + 1, len(journey)):
                    with self.subTest(journey=journey, rows=tariff.told(), at=at, to=to):
                        self.assertEqual(fault(tariff, journey, at, to) is None, to in told[at])


if __name__ == "__main__":
    unittest.main()
