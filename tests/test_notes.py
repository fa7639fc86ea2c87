"""Tests of farebreak.notes: bills, and tariffs written as lines (points 12 and 13)."""

import unittest

from farebreak.errors import (BadJourney, BadLine, BadPlace, BadPrice, NoParting, TooMany,
                              TwiceTold)
from farebreak.notes import bill, lines_of, tariff_of
from farebreak.partings import priced
from farebreak.tariff import Tariff
from tests.helpers import TOP, Refusing, along, cases, many_rows, names


class BillTest(Refusing):

    def test_of_one_stretch(self):
        tariff = Tariff([("ost", "west", 250)])
        self.assertEqual(bill(tariff, ["ost", "west"]), ["ost west 250", "all 250"])
        self.assertEqual(bill(tariff, ["ost", "nord", "west"]), ["ost west 250", "all 250"])

    def test_of_several_stretches_in_order(self):
        tariff = Tariff([("west", "nord", 90), ("ost", "west", 250), ("nord", "ost", 5)])
        self.assertEqual(bill(tariff, ["ost", "west", "nord", "ost"]),
                         ["ost west 250", "west nord 90", "nord ost 5", "all 345"])

    def test_it_tells_the_places_at_the_ends_of_stretches_alone(self):
        tariff = Tariff([("a", "c", 7), ("c", "e", 8)])
        self.assertEqual(bill(tariff, ["a", "b", "c", "d", "e"]), ["a c 7", "c e 8", "all 15"])

    def test_with_the_price_nought(self):
        tariff = Tariff([("a", "b", 0), ("b", "c", 0)])
        self.assertEqual(bill(tariff, ["a", "b"]), ["a b 0", "all 0"])
        self.assertEqual(bill(tariff, ["a", "b", "c"]), ["a b 0", "b c 0", "all 0"])

    def test_with_the_highest_price(self):
        tariff = Tariff([("a", "b", TOP), ("b", "c", TOP)])
        self.assertEqual(bill(tariff, ["a", "b"]), ["a b 1000000000000", "all 1000000000000"])
        self.assertEqual(bill(tariff, ["a", "b", "c"]),
                         ["a b 1000000000000", "b c 1000000000000", "all 2000000000000"])

    def test_a_place_may_be_called_all(self):
        self.assertEqual(bill(Tariff([("all", "b", 1)]), ["all", "b"]), ["all b 1", "all 1"])

    def test_longest_names(self):
        tariff = Tariff([("a" * 12, "z" * 12, 10)])
        self.assertEqual(bill(tariff, ["a" * 12, "z" * 12]), ["a" * 12 + " " + "z" * 12 + " 10",
                                                              "all 10"])

    def test_of_40_places(self):
        journey = names(40)
        tariff = along(journey, {(k, k + 1): k for k in range(39)})
        lines = [f"{journey[k]} {journey[k + 1]} {k}" for k in range(39)]
        self.assertEqual(bill(tariff, journey), lines + ["all 741"])

    def test_it_is_a_list_of_texts(self):
        told = bill(Tariff([("a", "b", 1)]), ["a", "b"])
        self.assertIs(type(told), list)
        self.assertEqual([type(line) for line in told], [str, str])

    def test_it_goes_by_the_told_parting(self):
        for tariff, journey in cases(50, 300):
            with self.subTest(journey=journey, rows=tariff.told()):
                try:
                    price, cuts = priced(tariff, journey)
                except NoParting:
                    self.assert_refused(NoParting, bill, tariff, journey)
                    continue
                lines = []
                for at, to in zip(cuts, cuts[1:]):
                    here, there = journey[at], journey[to]
                    lines.append(" ".join([here, there, str(tariff.price(here, there))]))
                self.assertEqual(bill(tariff, journey), lines + ["all " + str(price)])

    def test_refused_as_parted_is(self):
        tariff = Tariff([("a", "b", 1)])
        self.assert_refused(NoParting, bill, tariff, ["b", "a"])
        self.assert_refused(BadJourney, bill, tariff, ["a"])
        self.assert_refused(BadPlace, bill, tariff, ["a", "B"])
        self.assert_refused(BadJourney, bill, tariff, ["a", "a"])


class LinesTest(unittest.TestCase):

    def assert_there_and_back(self, rows):
        lines = lines_of(Tariff(rows))
        self.assertEqual(lines, [" ".join([here, there, str(price)]) for here, there, price in rows])
        back = tariff_of(lines)
        self.assertIs(type(back), Tariff)
        self.assertEqual(back.told(), rows)
        self.assertEqual(lines_of(back), lines)

    def test_no_rows(self):
        self.assertEqual(lines_of(Tariff([])), [])
        self.assertEqual(tariff_of([]).told(), [])

    def test_one_row(self):
        self.assertEqual(lines_of(Tariff([("ost", "west", 250)])), ["ost west 250"])
        self.assertEqual(tariff_of(["ost west 250"]).told(), [("ost", "west", 250)])

    def test_there_and_back(self):
        self.assert_there_and_back([])
        self.assert_there_and_back([("z", "a", 5), ("a", "z", 4), ("m", "b", 0), ("b", "a", TOP)])
        self.assert_there_and_back([("a" * 12, "z" * 12, 10)])
        self.assert_there_and_back(many_rows(159))
        self.assert_there_and_back(many_rows(160))

    def test_numbers_of_1_to_13_figures(self):
        rows = [("a", "b" * (k + 1), 10 ** k) for k in range(12)] + [("b", "a", TOP)]
        self.assert_there_and_back(rows)
        rows = [("a", "b" * (k + 1), 10 ** (k + 1) - 1) for k in range(12)]
        self.assert_there_and_back(rows)

    def test_each_figure(self):
        for price in list(range(10)) + [1234567890, 987654321098]:
            with self.subTest(price):
                told = tariff_of([f"a b {price}"]).told()
                self.assertEqual(told, [("a", "b", price)])
                self.assertIs(type(told[0][2]), int)

    def test_it_is_a_list_of_texts(self):
        told = lines_of(Tariff([("a", "b", 1)]))
        self.assertIs(type(told), list)
        self.assertIs(type(told[0]), str)

    def test_a_row_that_was_put_later(self):
        tariff = tariff_of(["ost west 250"])
        tariff.put("a", "b", 3)
        self.assertEqual(lines_of(tariff), ["ost west 250", "a b 3"])


class BadLineTest(Refusing):

    def assert_bad_line(self, line):
        self.assert_refused(BadLine, tariff_of, [line])
        self.assert_refused(BadLine, tariff_of, ["x y 1", line])
        self.assert_refused(BadLine, tariff_of, [line, "x y 1"])

    def test_not_three_words(self):
        for line in ("", "a", "5", "a b", "a 5", "a b c 5", "a b 5 6", "a b 5 c", "a b c d 5",
                     "ab5", "all 5"):
            with self.subTest(line):
                self.assert_bad_line(line)

    def test_a_blank_ahead_behind_or_twice(self):
        for line in (" ", "  ", "   ", " a b 5", "a b 5 ", " a b 5 ", "a  b 5", "a b  5",
                     "a  b  5", "  a b 5", "a b 5  ", " a b", "a b ", " a 5", "a  5",
                     "a 5 ", " b 5", "  5", "a  ", " b "):
            with self.subTest(line):
                self.assert_bad_line(line)

    def test_a_tab_or_a_line_end_parts_no_words(self):
        for sign in ("\t", "\n", "\r", "\r\n", "\v", "\f", "\x1f", "\u00a0", "\u2003", "\u2028"):
            for line in (f"a{sign}b{sign}5", f"a{sign}b 5", f"a b{sign}5", f"a b{sign}", sign):
                with self.subTest(repr(line)):
                    self.assert_bad_line(line)

    def test_a_tab_or_a_line_end_in_the_third_word(self):
        for sign in ("\t", "\n", "\r", "\r\n", "\v", "\f", "\x1f", "\u00a0", "\u2003", "\u2028"):
            for line in (f"a b 5{sign}", f"a b {sign}5", f"a b 5{sign}6", f"a b {sign}"):
                with self.subTest(repr(line)):
                    self.assert_bad_line(line)

    def test_a_tab_or_a_line_end_in_another_word_is_a_sign_of_no_place(self):
        for sign in ("\t", "\n", "\r", "\r\n", "\v", "\f", "\u00a0"):
            for line in (f"{sign}a b 5", f"a{sign} b 5", f"a {sign}b 5", f"a b{sign} 5",
                         f"{sign} b 5", f"a {sign} 5", f"a{sign}c b 5"):
                with self.subTest(repr(line)):
                    self.assert_refused(BadPlace, tariff_of, [line])

    def test_no_figures(self):
        for word in ("x", "five", "-", "+", ".", "5x", "x5", "5a5", "1e3", "0x1", "1_0", "1,0",
                     "1.0", "1.", ".5", "None", "True"):
            with self.subTest(word):
                self.assert_bad_line(f"a b {word}")

    def test_a_nought_ahead(self):
        for word in ("00", "01", "05", "007", "0250", "0" * 13, "0" * 14, "0100000000000"):
            with self.subTest(word):
                self.assert_bad_line(f"a b {word}")
        self.assertEqual(tariff_of(["a b 0"]).told(), [("a", "b", 0)])

    def test_more_than_13_figures(self):
        for word in ("10000000000000", "99999999999999", "01000000000000", "1" * 15, "9" * 5000):
            with self.subTest(len(word)):
                self.assert_bad_line(f"a b {word}")
        self.assertEqual(tariff_of(["a b 1000000000000"]).told(), [("a", "b", TOP)])

    def test_13_figures_that_are_no_price_are_no_bad_line(self):
        for word in ("1000000000001", "9999999999999"):
            with self.subTest(word):
                self.assert_refused(BadPrice, tariff_of, [f"a b {word}"])

    def test_a_sign(self):
        for word in ("-1", "+1", "-0", "+0", "--1", "1-", "-1000000000000", "\u22121"):
            with self.subTest(word):
                self.assert_bad_line(f"a b {word}")

    def test_other_figures_than_0_to_9(self):
        for word in ("\u0665", "\u0967", "\uff15", "\u00b2", "\u00bd", "\u2164", "\u4e94",
                     "1\u0665", "\uff11\uff12", "\U0001d7d8", "\u0660", "5\u0301"):
            with self.subTest(word):
                self.assert_bad_line(f"a b {word}")


class LineOrderTest(Refusing):

    def test_a_bad_line_goes_ahead_of_what_an_earlier_row_is_refused_for(self):
        for earlier in (["A b 1"], ["a B 1"], ["a a 1"], ["a b 1000000000001"],
                        ["a b 1", "a b 1"], ["abcdefghijklm b 1"]):
            for bad in ("", "a b", "c d 01", "c d -1", "c d 1 "):
                with self.subTest(earlier=earlier, bad=bad):
                    self.assert_refused(BadLine, tariff_of, earlier + [bad])
                    self.assert_refused(BadLine, tariff_of, earlier + ["c d 1", bad])

    def test_a_bad_line_behind_too_many_rows(self):
        lines = [f"{here} {there} {price}" for here, there, price in many_rows(161)]
        self.assert_refused(BadLine, tariff_of, lines + ["x y 01"])
        self.assert_refused(TooMany, tariff_of, lines)

    def test_a_bad_line_is_told_of_a_line_that_has_a_bad_place_too(self):
        for line in ("A b 01", "a a x", "A B", "a B  1", "a a -1"):
            with self.subTest(line):
                self.assert_refused(BadLine, tariff_of, [line])

    def test_rows_are_refused_as_by_a_tariff(self):
        for kind, line in ((BadPlace, "A b 1"), (BadPlace, "a B 1"), (BadPlace, "a a 1"),
                           (BadPlace, "a1 b 1"), (BadPlace, "a b" + "b" * 12 + " 1"),
                           (BadPlace, "5 6 7"), (BadPlace, "\u00e4 b 1"), (BadPlace, "a a 1000000000001"),
                           (BadPrice, "a b 1000000000001"), (TwiceTold, "ost west 250"),
                           (TwiceTold, "ost west 3")):
            with self.subTest(line):
                self.assert_refused(kind, tariff_of, ["ost west 250", line])
                self.assert_refused(kind, tariff_of, ["ost west 250", line, "c d 1"])

    def test_the_first_row_that_is_refused(self):
        place, price, twice = "A b 1", "a b 1000000000001", "ost west 5"
        good = "ost west 3"
        self.assert_refused(BadPlace, tariff_of, [good, place, price, twice])
        self.assert_refused(BadPrice, tariff_of, [good, price, place, twice])
        self.assert_refused(TwiceTold, tariff_of, [good, twice, price, place])

    def test_too_many_rows(self):
        lines = [f"{here} {there} {price}" for here, there, price in many_rows(161)]
        self.assert_refused(TooMany, tariff_of, lines)
        self.assert_refused(TooMany, tariff_of, lines + ["A b 1"])
        self.assert_refused(BadPlace, tariff_of, lines[:160] + ["A b 1"])
        self.assert_refused(TwiceTold, tariff_of, lines[:160] + [lines[0]])
        self.assertEqual(len(tariff_of(lines[:160]).told()), 160)


if __name__ == "__main__":
    unittest.main()
