"""Tests of farebreak.tariff: places, prices and tariffs (points 1 to 4)."""

import unittest

from farebreak.errors import BadPlace, BadPrice, TooMany, TwiceTold
from farebreak.tariff import Tariff, is_place, is_price
from tests.helpers import TOP, Refusing, many_rows

NO_PLACES = (
    "", "a" * 13, "a" * 14, "a" * 500,
    "A", "Z", "Ost", "osT", "OST",
    "a b", " a", "a ", "a\n", "\na", "a\tb", " ", "\n",
    "a1", "1", "0", "a-b", "a_b", "a.b", "a,b", "a'b", "`", "{", "@", "[", "a\x00",
    "\u00e4", "\u00df", "\u00f1", "\u0131", "\u0430", "\u00aa", "\u017f", "\uff41", "e\u0301",
    None, True, False, 0, 1, 12, -1,
)
NO_PRICES = (TOP + 1, TOP + 2, 10 ** 13, 10 ** 40, -1, -2, -TOP, True, False, None,
             "", "0", "1", "250", "a")


class PlaceTest(unittest.TestCase):

    def test_one_to_twelve_small_letters(self):
        for thing in ("a", "z", "az", "m", "ost", "x" * 11, "a" * 12, "z" * 12,
                      "abcdefghijkl", "mnopqrstuvwx", "yz"):
            with self.subTest(thing):
                self.assertIs(is_place(thing), True)

    def test_each_small_letter(self):
        for sign in "abcdefghijklmnopqrstuvwxyz":
            with self.subTest(sign):
                self.assertIs(is_place(sign), True)

    def test_all_else_is_no_place(self):
        for thing in NO_PLACES:
            with self.subTest(repr(thing)):
                self.assertIs(is_place(thing), False)

    def test_one_other_sign_is_enough_wherever_it_stands(self):
        for at in range(12):
            text = "a" * at + "B" + "a" * (11 - at)
            with self.subTest(text):
                self.assertIs(is_place(text), False)

    def test_all_other_signs_below_256(self):
        for code in range(256):
            small = ord("a") <= code <= ord("z")
            with self.subTest(code):
                self.assertIs(is_place(chr(code)), small)
                self.assertIs(is_place("q" + chr(code)), small)


class PriceTest(unittest.TestCase):

    def test_whole_numbers_from_nought_on(self):
        for thing in (0, 1, 2, 250, TOP - 1, TOP):
            with self.subTest(thing):
                self.assertIs(is_price(thing), True)

    def test_all_else_is_no_price(self):
        for thing in NO_PRICES:
            with self.subTest(repr(thing)):
                self.assertIs(is_price(thing), False)


class RowsTest(unittest.TestCase):

    def test_no_rows(self):
        tariff = Tariff([])
        self.assertEqual(tariff.told(), [])
        self.assertIsNone(tariff.price("ost", "west"))

    def test_rows_stay_in_the_order_in_which_they_came(self):
        rows = [("z", "a", 5), ("a", "z", 4), ("m", "b", 0), ("b", "a", TOP), ("a", "b", 9)]
        tariff = Tariff(rows)
        self.assertEqual(tariff.told(), rows)
        tariff.put("a", "m", 1)
        tariff.put("a", "c", 8)
        self.assertEqual(tariff.told(), rows + [("a", "m", 1), ("a", "c", 8)])

    def test_rows_are_told_as_a_list_of_tuples(self):
        tariff = Tariff([("ost", "west", 3)])
        tariff.put("west", "ost", 4)
        told = tariff.told()
        self.assertIs(type(told), list)
        for row in told:
            self.assertIs(type(row), tuple)
            self.assertEqual([type(thing) for thing in row], [str, str, int])

    def test_put_gives_none(self):
        self.assertIsNone(Tariff([]).put("ost", "west", 3))

    def test_the_way_back_is_another_way(self):
        tariff = Tariff([("ost", "west", 3)])
        self.assertEqual(tariff.price("ost", "west"), 3)
        self.assertIsNone(tariff.price("west", "ost"))
        tariff.put("west", "ost", 8)
        self.assertEqual(tariff.price("ost", "west"), 3)
        self.assertEqual(tariff.price("west", "ost"), 8)

    def test_a_price_that_no_row_tells(self):
        tariff = Tariff([("ost", "west", 3), ("west", "nord", 4)])
        for here, there in (("ost", "nord"), ("nord", "ost"), ("ost", "ost"),
                            ("os", "twest"), ("ostwest", "a"), ("x", "y")):
            with self.subTest(here=here, there=there):
                self.assertIsNone(tariff.price(here, there))

    def test_the_least_and_the_highest_price(self):
        tariff = Tariff([("a", "b", 0), ("b", "a", TOP)])
        self.assertEqual(tariff.price("a", "b"), 0)
        self.assertIsNotNone(tariff.price("a", "b"))
        self.assertEqual(tariff.price("b", "a"), TOP)

    def test_two_ways_that_read_alike_when_joined(self):
        tariff = Tariff([("ab", "c", 1), ("a", "bc", 2)])
        self.assertEqual(tariff.price("ab", "c"), 1)
        self.assertEqual(tariff.price("a", "bc"), 2)

    def test_longest_names(self):
        tariff = Tariff([("a" * 12, "z" * 12, 5)])
        self.assertEqual(tariff.price("a" * 12, "z" * 12), 5)

    def test_a_hundred_and_sixty_rows(self):
        rows = many_rows(160)
        made = Tariff(rows)
        built = Tariff([])
        for here, there, price in rows:
            built.put(here, there, price)
        for tariff in (made, built):
            self.assertEqual(len(tariff.told()), 160)
            self.assertEqual(tariff.told(), rows)
            for here, there, price in rows:
                self.assertEqual(tariff.price(here, there), price)


class RefusedRowTest(Refusing):

    def setUp(self):
        self.rows = [("ost", "west", 3), ("west", "ost", 0)]
        self.tariff = Tariff(self.rows)

    def assert_unchanged(self):
        self.assertEqual(self.tariff.told(), self.rows)
        self.assertEqual(self.tariff.price("ost", "west"), 3)
        self.assertEqual(self.tariff.price("west", "ost"), 0)
        self.assertIsNone(self.tariff.price("a", "b"))

    def test_the_first_is_no_place(self):
        for thing in NO_PLACES:
            with self.subTest(repr(thing)):
                self.assert_refused(BadPlace, self.tariff.put, thing, "b", 1)
                self.assert_unchanged()

    def test_the_second_is_no_place(self):
        for thing in NO_PLACES:
            with self.subTest(repr(thing)):
                self.assert_refused(BadPlace, self.tariff.put, "a", thing, 1)
                self.assert_unchanged()

    def test_both_are_the_same_place(self):
        self.assert_refused(BadPlace, self.tariff.put, "a", "a", 1)
        self.assert_refused(BadPlace, self.tariff.put, "ost", "ost", 1)
        self.assert_refused(BadPlace, self.tariff.put, "w" * 12, "w" * 12, 0)
        self.assert_unchanged()

    def test_the_price_is_no_price(self):
        for thing in NO_PRICES:
            with self.subTest(repr(thing)):
                self.assert_refused(BadPrice, self.tariff.put, "a", "b", thing)
                self.assert_unchanged()

    def test_the_way_is_told_already(self):
        for price in (0, 1, 3, TOP):
            self.assert_refused(TwiceTold, self.tariff.put, "ost", "west", price)
            self.assert_refused(TwiceTold, self.tariff.put, "west", "ost", price)
        self.assert_unchanged()

    def test_another_row_can_be_put_after_a_refusal(self):
        put = self.tariff.put
        self.assert_refused(BadPlace, put, "A", "b", 1)
        self.assert_refused(BadPlace, put, "a", "B", 1)
        self.assert_refused(BadPlace, put, "a", "a", 1)
        self.assert_refused(BadPrice, put, "a", "b", TOP + 1)
        self.assert_refused(TwiceTold, put, "ost", "west", 5)
        self.assertIsNone(put("a", "b", 7))
        self.assertEqual(self.tariff.told(), self.rows + [("a", "b", 7)])
        self.assertEqual(self.tariff.price("a", "b"), 7)

    def test_a_refused_way_does_not_count_as_told(self):
        self.assert_refused(BadPrice, self.tariff.put, "a", "b", -1)
        self.assertIsNone(self.tariff.put("a", "b", 1))
        self.assert_refused(TwiceTold, self.tariff.put, "a", "b", 1)

    def test_refused_rows_do_not_count_towards_the_most(self):
        tariff = Tariff(many_rows(159))
        for _ in range(5):
            self.assert_refused(BadPlace, tariff.put, "x", "x", 1)
            self.assert_refused(BadPrice, tariff.put, "x", "y", None)
            self.assert_refused(TwiceTold, tariff.put, "aa", "ab", 1)
        self.assertIsNone(tariff.put("x", "y", 1))
        self.assertEqual(len(tariff.told()), 160)
        self.assert_refused(TooMany, tariff.put, "y", "x", 1)


class RefusalOrderTest(Refusing):

    def setUp(self):
        self.tariff = Tariff([("ost", "west", 3)])

    def test_no_place_goes_ahead_of_no_price(self):
        self.assert_refused(BadPlace, self.tariff.put, "", "west", -1)
        self.assert_refused(BadPlace, self.tariff.put, "ost", "", -1)
        self.assert_refused(BadPlace, self.tariff.put, None, None, None)

    def test_the_same_place_goes_ahead_of_no_price(self):
        self.assert_refused(BadPlace, self.tariff.put, "ost", "ost", TOP + 1)
        self.assert_refused(BadPlace, self.tariff.put, "ost", "ost", None)

    def test_no_price_goes_ahead_of_a_way_told_already(self):
        self.assert_refused(BadPrice, self.tariff.put, "ost", "west", -1)
        self.assert_refused(BadPrice, self.tariff.put, "ost", "west", True)

    def test_all_go_ahead_of_too_many_rows(self):
        rows = many_rows(160)
        tariff = Tariff(rows)
        here, there, price = rows[0]
        self.assert_refused(BadPlace, tariff.put, "X", "y", 1)
        self.assert_refused(BadPlace, tariff.put, "x", "Y", 1)
        self.assert_refused(BadPlace, tariff.put, "x", "x", 1)
        self.assert_refused(BadPrice, tariff.put, "x", "y", TOP + 1)
        self.assert_refused(TwiceTold, tariff.put, here, there, price)
        here, there, price = rows[159]
        self.assert_refused(TwiceTold, tariff.put, here, there, price + 1)
        self.assert_refused(TooMany, tariff.put, "x", "y", 1)
        self.assertEqual(tariff.told(), rows)


class TooManyTest(Refusing):

    def test_the_161st_row_is_refused_and_changes_nothing(self):
        rows = many_rows(161)
        tariff = Tariff(rows[:160])
        here, there, price = rows[160]
        for _ in range(3):
            self.assert_refused(TooMany, tariff.put, here, there, price)
            self.assertEqual(tariff.told(), rows[:160])
            self.assertIsNone(tariff.price(here, there))

    def test_a_tariff_of_more_rows_is_not_made(self):
        self.assert_refused(TooMany, Tariff, many_rows(161))
        self.assert_refused(TooMany, Tariff, many_rows(170))


class RefusedMakingTest(Refusing):

    def test_as_its_refused_row_is(self):
        good = ("ost", "west", 3)
        for kind, row in ((BadPlace, ("A", "b", 1)), (BadPlace, ("a", "", 1)),
                          (BadPlace, ("a", "a", 1)), (BadPrice, ("a", "b", -1)),
                          (BadPrice, ("a", "b", False)), (TwiceTold, ("ost", "west", 3)),
                          (TwiceTold, ("ost", "west", 4))):
            with self.subTest(row):
                self.assert_refused(kind, Tariff, [good, row])
                self.assert_refused(kind, Tariff, [good, row, ("b", "a", 1)])

    def test_as_the_first_of_several_refused_rows_is(self):
        good = ("ost", "west", 3)
        place, price, twice = ("A", "b", 1), ("a", "b", -1), ("ost", "west", 5)
        self.assert_refused(BadPlace, Tariff, [good, place, price, twice])
        self.assert_refused(BadPrice, Tariff, [good, price, place, twice])
        self.assert_refused(TwiceTold, Tariff, [good, twice, price, place])
        self.assert_refused(BadPrice, Tariff, [price, good, twice])

    def test_a_fault_behind_the_161st_row_is_not_looked_at(self):
        self.assert_refused(TooMany, Tariff, many_rows(161) + [("A", "b", 1)])
        self.assert_refused(TooMany, Tariff, many_rows(161) + [("a", "b", -1)])

    def test_a_fault_ahead_of_the_161st_row_or_in_it_goes_first(self):
        rows = many_rows(161)
        self.assert_refused(BadPlace, Tariff, [("A", "b", 1)] + rows)
        self.assert_refused(BadPlace, Tariff, rows[:160] + [("A", "b", 1)])
        self.assert_refused(BadPrice, Tariff, rows[:160] + [("x", "y", -1)])
        self.assert_refused(TwiceTold, Tariff, rows[:160] + [rows[0]])

    def test_a_way_may_be_told_twice_only_by_another_tariff(self):
        row = ("ost", "west", 3)
        first, second = Tariff([row]), Tariff([row])
        self.assertEqual(first.told(), second.told())


class NothingIsChangedTest(Refusing):

    def test_rows_that_are_handed_in_stay_as_they_are(self):
        rows = [("ost", "west", 3), ("west", "ost", 4)]
        tariff = Tariff(rows)
        tariff.put("a", "b", 1)
        self.assertEqual(rows, [("ost", "west", 3), ("west", "ost", 4)])

    def test_rows_that_are_refused_stay_as_they_are(self):
        rows = [("ost", "west", 3), ("ost", "west", 4), ("a", "b", 1)]
        self.assert_refused(TwiceTold, Tariff, rows)
        self.assertEqual(rows, [("ost", "west", 3), ("ost", "west", 4), ("a", "b", 1)])

    def test_changing_the_rows_after_they_were_handed_in_changes_nothing(self):
        rows = [("ost", "west", 3), ("west", "ost", 4)]
        tariff = Tariff(rows)
        rows.append(("a", "b", 1))
        rows[0] = ("ost", "west", 99)
        del rows[1]
        self.assertEqual(tariff.told(), [("ost", "west", 3), ("west", "ost", 4)])
        self.assertEqual(tariff.price("ost", "west"), 3)
        self.assertIsNone(tariff.price("a", "b"))

    def test_changing_what_is_told_changes_nothing(self):
        tariff = Tariff([("ost", "west", 3), ("west", "ost", 4)])
        told = tariff.told()
        told.append(("a", "b", 1))
        told[0] = ("ost", "west", 99)
        del told[1]
        self.assertEqual(tariff.told(), [("ost", "west", 3), ("west", "ost", 4)])
        self.assertEqual(tariff.price("ost", "west"), 3)
        self.assertIsNone(tariff.price("a", "b"))
        self.assertIsNone(tariff.put("a", "b", 5))

    def test_each_list_that_is_told_is_a_new_one(self):
        tariff = Tariff([("ost", "west", 3)])
        first, second = tariff.told(), tariff.told()
        self.assertIsNot(first, second)
        first.clear()
        self.assertEqual(second, [("ost", "west", 3)])

    def test_a_list_told_ahead_stays_what_it_was(self):
        tariff = Tariff([("ost", "west", 3)])
        ahead = tariff.told()
        tariff.put("west", "ost", 4)
        self.assertEqual(ahead, [("ost", "west", 3)])
        self.assertEqual(tariff.told(), [("ost", "west", 3), ("west", "ost", 4)])

    def test_asking_for_a_price_adds_no_row(self):
        tariff = Tariff([("ost", "west", 3)])
        tariff.price("a", "b")
        self.assertEqual(tariff.told(), [("ost", "west", 3)])
        self.assertIsNone(tariff.put("a", "b", 1))

    def test_two_tariffs_of_the_same_rows_are_on_their_own(self):
        rows = [("ost", "west", 3)]
        first, second = Tariff(rows), Tariff(rows)
        first.put("a", "b", 1)
        self.assertEqual(second.told(), rows)
        self.assertIsNone(second.price("a", "b"))
        self.assertIsNone(second.put("a", "b", 2))
        self.assertEqual(first.price("a", "b"), 1)


if __name__ == "__main__":
    unittest.main()
