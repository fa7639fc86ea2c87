"""Tests of farebreak.partings: prices, what is left, what is told (points 9 to 11)."""

import unittest
from itertools import product

from farebreak.errors import BadCuts, NoParting, NotHeld
from farebreak.notes import bill
from farebreak.partings import left, parted, price_of, priced
from farebreak.tariff import Tariff
from tests.helpers import TOP, Refusing, all_partings, along, cases, names, told_of

ABCD = ["a", "b", "c", "d"]


def all_ways(journey, price):
    """A tariff that prices each stretch of a journey the same."""
    count = len(journey)
    return along(journey, {(at, to): price for at in range(count) for to in range(at + 1, count)})


class PriceOfTest(Refusing):

    def test_the_sum_of_prices(self):
        tariff = along(ABCD, {(0, 1): 1, (1, 2): 20, (2, 3): 300, (0, 2): 4000,
                              (1, 3): 50000, (0, 3): 600000})
        for cuts, price in (([0, 3], 600000), ([0, 1, 3], 50001), ([0, 2, 3], 4300),
                            ([0, 1, 2, 3], 321)):
            with self.subTest(cuts):
                self.assertEqual(price_of(tariff, ABCD, cuts), price)
                self.assertIs(type(price_of(tariff, ABCD, cuts)), int)

    def test_it_need_not_be_the_told_parting(self):
        tariff = along(["a", "b", "c"], {(0, 1): 5, (1, 2): 5, (0, 2): 6})
        self.assertEqual(priced(tariff, ["a", "b", "c"]), (6, [0, 2]))
        self.assertEqual(price_of(tariff, ["a", "b", "c"], [0, 1, 2]), 10)

    def test_least_and_highest_prices(self):
        self.assertEqual(price_of(all_ways(ABCD, 0), ABCD, [0, 1, 2, 3]), 0)
        self.assertEqual(price_of(all_ways(ABCD, TOP), ABCD, [0, 1, 2, 3]), 3 * TOP)

    def test_the_shortest_and_the_longest_journey(self):
        self.assertEqual(price_of(Tariff([("a", "b", 7)]), ["a", "b"], [0, 1]), 7)
        journey = names(40)
        tariff = along(journey, {(k, k + 1): TOP - k for k in range(39)})
        self.assertEqual(price_of(tariff, journey, list(range(40))), 39 * TOP - 741)

    def test_a_way_that_comes_again_is_paid_again(self):
        tariff = Tariff([("a", "b", 3), ("b", "a", 4)])
        self.assertEqual(price_of(tariff, ["a", "b", "a", "b"], [0, 1, 2, 3]), 10)

    def test_as_the_search_says_for_small_journeys(self):
        for tariff, journey in cases(20, 120):
            partings = all_partings(tariff, journey)
            last = len(journey) - 1
            for kept in product((False, True), repeat=last - 1):
                cuts = [0] + [k + 1 for k in range(last - 1) if kept[k]] + [last]
                with self.subTest(journey=journey, rows=tariff.told(), cuts=cuts):
                    if tuple(cuts) in partings:
                        self.assertEqual(price_of(tariff, journey, cuts), partings[tuple(cuts)])
                    else:
                        self.assert_refused(NotHeld, price_of, tariff, journey, cuts)


class BadCutsTest(Refusing):

    WRONG = (
        [], [0], [3], [1], [-1], [4],
        [1, 3], [2, 3], [-1, 3], [1, 2, 3], [-1, 0, 3], [4, 3], [-4, 3], [-3, 3],
        [0, 1], [0, 2], [0, 1, 2], [0, 4], [0, 3, 4], [0, -1], [0, 1, -1], [0, 5],
        [0, 2, 1, 3], [0, 1, 2, 1, 3], [3, 0], [3, 2, 1, 0], [0, 3, 0], [0, 3, 2, 3],
        [0, 0, 3], [0, 3, 3], [0, 1, 1, 3], [0, 1, 2, 2, 3], [0, 0], [3, 3], [0, 0, 0],
        [0, 4, 3], [0, -1, 3], [0, 10 ** 30, 3], [0, -10 ** 30, 3], [0, 10 ** 30],
        [-10 ** 30, 3], [10 ** 30, 10 ** 30], [0, 1, 2, 3, 4], [0, 1, 10 ** 5000, 3],
    )

    def test_cuts_that_tell_no_parting(self):
        tariff = all_ways(ABCD, 1)
        for number, cuts in enumerate(self.WRONG):
            with self.subTest(number):
                ahead = list(cuts)
                self.assert_refused(BadCuts, price_of, tariff, ABCD, cuts)
                self.assertEqual(cuts, ahead)

    def test_also_where_a_stretch_would_not_hold(self):
        some = along(ABCD, {(0, 1): 9, (0, 2): 5, (1, 3): 5})
        for tariff in (Tariff([]), some):
            for number, cuts in enumerate(self.WRONG):
                with self.subTest(number):
                    self.assert_refused(BadCuts, price_of, tariff, ABCD, cuts)

    def test_of_the_shortest_journey(self):
        tariff = Tariff([("a", "b", 1)])
        self.assertEqual(price_of(tariff, ["a", "b"], [0, 1]), 1)
        for cuts in ([], [0], [1], [0, 0], [1, 1], [1, 0], [0, 2], [0, 1, 1], [0, 0, 1], [0, 1, 2]):
            with self.subTest(cuts):
                self.assert_refused(BadCuts, price_of, tariff, ["a", "b"], cuts)

    def test_of_the_longest_journey(self):
        journey = names(40)
        tariff = along(journey, {(k, k + 1): 1 for k in range(39)})
        whole = list(range(40))
        self.assertEqual(price_of(tariff, journey, whole), 39)
        for at in range(1, 39):
            with self.subTest(at):
                same = whole[:at] + [at] + whole[at:]
                turned = whole[:at] + [at + 1, at] + whole[at + 2:]
                self.assert_refused(BadCuts, price_of, tariff, journey, same)
                self.assert_refused(BadCuts, price_of, tariff, journey, turned)
        self.assert_refused(BadCuts, price_of, tariff, journey, whole[:39])
        self.assert_refused(BadCuts, price_of, tariff, journey, whole[1:])
        self.assert_refused(BadCuts, price_of, tariff, journey, list(range(41)))


class NotHeldTest(Refusing):

    def test_each_fault_of_a_stretch(self):
        self.assert_refused(NotHeld, price_of, Tariff([]), ["a", "b"], [0, 1])
        tariff = Tariff([("a", "c", 5), ("a", "b", 6), ("b", "a", 1), ("b", "c", 1)])
        self.assert_refused(NotHeld, price_of, tariff, ["a", "b", "a", "c"], [0, 3])
        self.assert_refused(NotHeld, price_of, tariff, ["a", "b", "c"], [0, 2])
        self.assertEqual(price_of(tariff, ["a", "b", "a", "c"], [0, 1, 2, 3]), 12)
        self.assertEqual(price_of(tariff, ["a", "b", "c"], [0, 1, 2]), 7)

    def test_whichever_stretch_does_not_hold(self):
        journey = names(6)
        for gap in range(5):
            tariff = along(journey, {(k, k + 1): 1 for k in range(5) if k != gap})
            with self.subTest(gap):
                self.assert_refused(NotHeld, price_of, tariff, journey, [0, 1, 2, 3, 4, 5])


class LeftTest(unittest.TestCase):

    def test_the_least_price_from_each_number(self):
        tariff = along(ABCD, {(0, 1): 4, (1, 2): 4, (2, 3): 4, (0, 2): 5, (1, 3): 9, (0, 3): 20})
        self.assertEqual(left(tariff, ABCD), [9, 8, 4, 0])

    def test_nought_for_the_last_number(self):
        self.assertEqual(left(Tariff([("a", "b", 7)]), ["a", "b"]), [7, 0])
        self.assertEqual(left(Tariff([]), ["a", "b"]), [None, 0])
        self.assertEqual(left(Tariff([]), names(40)), [None] * 39 + [0])

    def test_nought_is_told_where_nothing_is_to_be_paid(self):
        told = left(all_ways(ABCD, 0), ABCD)
        self.assertEqual(told, [0, 0, 0, 0])
        self.assertEqual([type(price) for price in told], [int] * 4)

    def test_none_where_no_row_of_stretches_leads_on(self):
        tariff = along(ABCD, {(0, 1): 1, (2, 3): 3, (0, 2): 2})
        self.assertEqual(left(tariff, ABCD), [5, None, 3, 0])
        tariff = along(ABCD, {(0, 1): 1, (1, 2): 1, (0, 2): 2})
        self.assertEqual(left(tariff, ABCD), [None, None, None, 0])
        tariff = along(ABCD, {(1, 2): 1, (2, 3): 1})
        self.assertEqual(left(tariff, ABCD), [None, 2, 1, 0])

    def test_a_stretch_that_does_not_hold_is_not_taken(self):
        tariff = along(["a", "b", "c"], {(0, 1): 6, (1, 2): 1, (0, 2): 5})
        self.assertEqual(left(tariff, ["a", "b", "c"]), [7, 1, 0])
        tariff = along(["a", "b", "c"], {(0, 1): 6, (0, 2): 5})
        self.assertEqual(left(tariff, ["a", "b", "c"]), [None, None, 0])

    def test_what_comes_ahead_of_a_number_says_nothing(self):
        journey = ["c", "a", "b", "c"]
        tariff = Tariff([("c", "a", 9), ("a", "c", 2)])
        self.assertEqual(left(tariff, journey), [11, 2, None, 0])

    def test_the_highest_prices_of_40_places(self):
        journey = names(40)
        tariff = along(journey, {(k, k + 1): TOP for k in range(39)})
        self.assertEqual(left(tariff, journey), [(39 - k) * TOP for k in range(40)])

    def test_it_is_a_new_list_of_numbers(self):
        told = left(Tariff([("a", "b", 7)]), ["a", "b"])
        self.assertIs(type(told), list)

    def test_as_the_search_says_for_small_journeys(self):
        for tariff, journey in cases(30, 400):
            expected = [min(all_partings(tariff, journey, k).values(), default=None)
                        for k in range(len(journey))]
            with self.subTest(journey=journey, rows=tariff.told()):
                self.assertEqual(left(tariff, journey), expected)


class ToldPartingTest(Refusing):

    def assert_told(self, tariff, journey, price, cuts):
        self.assertEqual(parted(tariff, journey), cuts)
        self.assertEqual(priced(tariff, journey), (price, cuts))
        self.assertEqual(price_of(tariff, journey, cuts), price)
        self.assertEqual(left(tariff, journey)[0], price)

    def test_the_only_one(self):
        self.assert_told(Tariff([("a", "b", 7)]), ["a", "b"], 7, [0, 1])
        self.assert_told(along(ABCD, {(0, 3): 7}), ABCD, 7, [0, 3])
        self.assert_told(along(ABCD, {(0, 1): 1, (1, 3): 2}), ABCD, 3, [0, 1, 3])
        self.assert_told(along(ABCD, {(0, 1): 1, (1, 2): 2, (2, 3): 3}), ABCD, 6, [0, 1, 2, 3])

    def test_the_one_that_costs_least(self):
        self.assert_told(along(["a", "b", "c"], {(0, 1): 2, (1, 2): 2, (0, 2): 3}),
                         ["a", "b", "c"], 3, [0, 2])
        self.assert_told(along(["a", "b", "c"], {(0, 1): 2, (1, 2): 2, (0, 2): 5}),
                         ["a", "b", "c"], 4, [0, 1, 2])

    def test_it_keeps_the_checks_though_another_would_cost_less(self):
        self.assert_told(along(["a", "b", "c"], {(0, 1): 6, (1, 2): 2, (0, 2): 5}),
                         ["a", "b", "c"], 8, [0, 1, 2])
        tariff = Tariff([("a", "b", 2), ("b", "a", 2), ("a", "c", 2)])
        self.assert_told(tariff, ["a", "b", "a", "c"], 6, [0, 1, 2, 3])

    def test_least_goes_ahead_of_fewest(self):
        tariff = along(ABCD, {(0, 1): 1, (1, 2): 1, (2, 3): 1, (0, 3): 4, (0, 2): 3, (1, 3): 3})
        self.assert_told(tariff, ABCD, 3, [0, 1, 2, 3])

    def test_fewest_stretches_where_several_cost_least(self):
        tariff = along(ABCD, {(0, 1): 1, (1, 2): 1, (2, 3): 1, (0, 3): 3, (0, 2): 2, (1, 3): 2})
        self.assert_told(tariff, ABCD, 3, [0, 3])
        self.assert_told(all_ways(ABCD, 0), ABCD, 0, [0, 3])

    def test_fewest_goes_ahead_of_the_latest_end(self):
        journey = names(5)
        tariff = along(journey, {(0, 1): 1, (1, 4): 4, (0, 2): 2, (2, 3): 1, (3, 4): 2,
                                 (0, 3): 3})
        self.assert_told(tariff, journey, 5, [0, 3, 4])
        tariff = along(journey, {(0, 1): 1, (1, 4): 4, (0, 2): 2, (2, 3): 1, (3, 4): 2})
        self.assert_told(tariff, journey, 5, [0, 1, 4])

    def test_the_latest_end_of_the_first_stretch(self):
        tariff = along(ABCD, {(0, 1): 1, (1, 3): 2, (0, 2): 2, (2, 3): 1})
        self.assert_told(tariff, ABCD, 3, [0, 2, 3])

    def test_the_latest_end_of_the_second_stretch(self):
        journey = names(5)
        tariff = along(journey, {(0, 1): 1, (1, 2): 1, (2, 4): 2, (1, 3): 2, (3, 4): 1})
        self.assert_told(tariff, journey, 4, [0, 1, 3, 4])

    def test_the_latest_end_of_the_third_stretch(self):
        journey = names(6)
        tariff = along(journey, {(0, 1): 1, (1, 2): 1, (2, 3): 1, (3, 5): 2, (2, 4): 2, (4, 5): 1})
        self.assert_told(tariff, journey, 5, [0, 1, 2, 4, 5])

    def test_the_first_stretch_decides_ahead_of_the_second(self):
        journey = names(6)
        tariff = along(journey, {(0, 2): 2, (2, 3): 1, (3, 5): 2, (0, 1): 1, (1, 4): 3, (4, 5): 1})
        self.assert_told(tariff, journey, 5, [0, 2, 3, 5])

    def test_whatever_the_order_of_the_rows(self):
        rows = [("a", "b", 1), ("b", "d", 2), ("a", "c", 2), ("c", "d", 1), ("b", "c", 1)]
        for some in (rows, rows[::-1], rows[2:] + rows[:2], rows[3:] + rows[:3]):
            self.assert_told(Tariff(some), ABCD, 3, [0, 2, 3])

    def test_kinds(self):
        told = priced(Tariff([("a", "b", 7)]), ["a", "b"])
        self.assertIs(type(told), tuple)
        self.assertEqual([type(thing) for thing in told], [int, list])
        self.assertIs(type(parted(Tariff([("a", "b", 7)]), ["a", "b"])), list)
        for cut in told[1]:
            self.assertIs(type(cut), int)

    def test_as_the_search_says_for_small_journeys(self):
        shared = {"least": 0, "fewest": 0, "first": 0, "second": 0}
        for tariff, journey in cases(40, 1500):
            partings = all_partings(tariff, journey)
            expected = told_of(partings)
            with self.subTest(journey=journey, rows=tariff.told()):
                if expected is None:
                    self.assert_refused(NoParting, priced, tariff, journey)
                    self.assert_refused(NoParting, parted, tariff, journey)
                    continue
                self.assertEqual(priced(tariff, journey), expected)
                self.assertEqual(parted(tariff, journey), expected[1])
            price, cuts = expected
            cheap = [some for some in partings if partings[some] == price]
            few = [some for some in cheap if len(some) == len(cuts)]
            alike = [some for some in few if some[1] == cuts[1]]
            shared["least"] += len(cheap) > 1
            shared["fewest"] += len(cheap) > len(few)
            shared["first"] += len(few) > len(alike)
            shared["second"] += len(alike) > 1
        # Cases in which nothing is shared would say nothing of which one is told.
        self.assertGreater(min(shared.values()), 10, shared)

    def test_each_tariff_of_three_places_and_small_prices(self):
        ways = [("a", "b"), ("b", "c"), ("a", "c"), ("b", "a"), ("c", "a")]
        journeys = (["a", "b", "c"], ["a", "b", "c", "a"], ["a", "b", "a", "c"])
        for prices in product((None, 0, 1, 2), repeat=len(ways)):
            tariff = Tariff([(here, there, price) for (here, there), price in zip(ways, prices)
                             if price is not None])
            for journey in journeys:
                expected = told_of(all_partings(tariff, journey))
                with self.subTest(journey=journey, prices=prices):
                    if expected is None:
                        self.assert_refused(NoParting, priced, tariff, journey)
                    else:
                        self.assertEqual(priced(tariff, journey), expected)


class NoPartingTest(Refusing):

    def test_by_parted_priced_and_bill(self):
        gap = along(ABCD, {(0, 1): 1, (0, 2): 1, (1, 2): 1})
        dearer = along(["a", "b", "c"], {(0, 1): 6, (0, 2): 5})
        twice = Tariff([("a", "c", 5), ("a", "b", 1)])
        back = Tariff([("b", "a", 1)])
        for tariff, journey in ((Tariff([]), ["a", "b"]), (gap, ABCD), (dearer, ["a", "b", "c"]),
                                (twice, ["a", "b", "a", "c"]), (back, ["a", "b"]),
                                (Tariff([]), names(40))):
            for ask in (parted, priced, bill):
                with self.subTest(journey=journey, rows=tariff.told(), ask=ask.__name__):
                    self.assert_refused(NoParting, ask, tariff, journey)
            self.assertIsNone(left(tariff, journey)[0])

    def test_one_gap_in_a_journey_of_40_places(self):
        journey = names(40)
        for gap in range(39):
            tariff = along(journey, {(k, k + 1): 1 for k in range(39) if k != gap})
            with self.subTest(gap):
                self.assert_refused(NoParting, parted, tariff, journey)
                self.assert_refused(NoParting, priced, tariff, journey)
                self.assert_refused(NoParting, bill, tariff, journey)


class LongJourneyTest(unittest.TestCase):

    def steps(self, cost):
        """40 places and as many rows as there may be, for the shortest stretches."""
        journey = names(40)
        ways = [(at, at + wide) for wide in range(1, 6) for at in range(40 - wide)][:160]
        return along(journey, {(at, to): cost(to - at) for at, to in ways}), journey

    def test_each_row_of_stretches_costs_the_same(self):
        tariff, journey = self.steps(lambda wide: 10 * wide)
        self.assertEqual(len(tariff.told()), 160)
        # Stretches over 5 begin at the first ten numbers only, all others go over 4.
        cuts = [0, 5, 10, 14, 18, 22, 26, 30, 34, 38, 39]
        self.assertEqual(priced(tariff, journey), (390, cuts))
        self.assertEqual(parted(tariff, journey), cuts)
        self.assertEqual(left(tariff, journey), [10 * (39 - k) for k in range(40)])

    def test_each_stretch_costs_the_same(self):
        tariff, journey = self.steps(lambda wide: TOP)
        cuts = [0, 5, 10, 14, 18, 22, 26, 30, 34, 38, 39]
        self.assertEqual(priced(tariff, journey), (10 * TOP, cuts))

    def test_short_stretches_cost_least(self):
        tariff, journey = self.steps(lambda wide: wide * wide)
        self.assertEqual(priced(tariff, journey), (39, list(range(40))))

    def test_over_13_places_with_each_way_between_them(self):
        places = names(13)
        rows = [(here, there, 4) for here in places for there in places if here != there]
        self.assertEqual(len(rows), 156)
        journey = (places * 4)[:40]
        # Twelve on is the furthest that no place comes again; 3 * 12 and 3 more are 39.
        self.assertEqual(priced(Tariff(rows), journey), (16, [0, 12, 24, 36, 39]))
        expected = [4 * ((39 - k + 11) // 12) for k in range(40)]
        self.assertEqual(left(Tariff(rows), journey), expected)

    def test_all_over_one_stretch(self):
        journey = names(40)
        tariff = along(journey, {(0, 39): 5, (0, 1): 5, (1, 39): 0})
        self.assertEqual(priced(tariff, journey), (5, [0, 39]))


if __name__ == "__main__":
    unittest.main()
