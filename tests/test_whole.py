"""Tests of what is promised over the whole program (points 1 and 5)."""

import unittest

from farebreak.errors import BadJourney, BadPlace, BadPrice, NoParting, TooMany, TwiceTold
from farebreak.journeys import need_journey
from farebreak.notes import bill, lines_of, tariff_of
from farebreak.partings import left, parted, price_of, priced
from farebreak.stretches import fault, held
from farebreak.tariff import Tariff
from tests.helpers import Refusing, cases, many_rows

NUMBERS = ((0, 1), (0, 2), (-1, 0), (1, 0), (0, 0), (0, 99), (99, 100))
CUTS = ([0, 1], [0, 2], [0, 1, 2], [], [0], [1, 0], [0, 0], [-1, 5], [0, 99])


def fault_at(at, to):
    return lambda tariff, journey: fault(tariff, journey, at, to)


def price_by(cuts):
    return lambda tariff, journey: price_of(tariff, journey, list(cuts))


# The seven functions that a journey is handed to, under all numbers and cuts.
ASKED = (
    [("held", held), ("left", left), ("parted", parted), ("priced", priced), ("bill", bill)]
    + [(f"fault {at} {to}", fault_at(at, to)) for at, to in NUMBERS]
    + [(f"price_of {cuts}", price_by(cuts)) for cuts in CUTS]
)


def answer(ask, tariff, journey):
    """What is told, or the kind of the refusal."""
    try:
        return ask(tariff, journey)
    except ValueError as refusal:
        return type(refusal)


def answers(tariff, journey):
    return [answer(ask, tariff, journey) for _, ask in ASKED]


class JourneyIsLookedAtFirstTest(Refusing):

    WRONG = (
        (BadJourney, []), (BadJourney, ["a"]), (BadJourney, [None]), (BadJourney, ["a", "b"] * 20 + ["a"]),
        (BadJourney, ["A"] * 41), (BadJourney, ["a", "a"]), (BadJourney, ["a", "b", "b"]),
        (BadJourney, ["a", "a", "B"]), (BadPlace, ["a", "B"]), (BadPlace, ["", "b"]),
        (BadPlace, ["a", "b" * 13]), (BadPlace, ["a", "b", None]), (BadPlace, [True, "b"]),
        (BadPlace, ["a", 7, 7]), (BadPlace, ["A", "A"]), (BadPlace, ["a", "B", "b", "b"]),
        (BadPlace, ["a", "b "]), (BadPlace, ["a", "b", "c"] * 13 + ["A"]),
        (BadJourney, ["a", "b", "c"] * 13 + ["c"]),
    )

    def test_by_each_function_whatever_the_numbers_or_cuts_are(self):
        full = Tariff([("a", "b", 1), ("b", "a", 1), ("b", "c", 1), ("c", "a", 1), ("a", "c", 1)])
        for tariff in (Tariff([]), full):
            for kind, journey in self.WRONG:
                for name, ask in ASKED:
                    with self.subTest(journey=journey, ask=name):
                        ahead = list(journey)
                        self.assert_refused(kind, ask, tariff, journey)
                        self.assertEqual(journey, ahead)

    def test_as_need_journey_does(self):
        for kind, journey in self.WRONG:
            self.assert_refused(kind, need_journey, journey)

    def test_journeys_of_2_and_of_40_places_are_let(self):
        tariff = Tariff([("a", "b", 1), ("b", "a", 1)])
        for journey in (["a", "b"], ["a", "b"] * 20):
            last = len(journey) - 1
            self.assertIsNone(fault(tariff, journey, last - 1, last))
            self.assertEqual(len(held(tariff, journey)), last + 1)
            self.assertEqual(price_of(tariff, journey, list(range(last + 1))), last)
            self.assertEqual(left(tariff, journey)[0], last)
            self.assertEqual(parted(tariff, journey), list(range(last + 1)))
            self.assertEqual(priced(tariff, journey), (last, list(range(last + 1))))
            self.assertEqual(len(bill(tariff, journey)), last + 1)


class NothingIsChangedTest(Refusing):

    def test_what_is_handed_in(self):
        for tariff, journey in cases(60, 60):
            rows, places = tariff.told(), list(journey)
            for name, ask in ASKED:
                with self.subTest(journey=journey, rows=rows, ask=name):
                    answer(ask, tariff, journey)
                    self.assertEqual(tariff.told(), rows)
                    self.assertEqual(journey, places)

    def test_cuts_that_are_handed_in(self):
        tariff = Tariff([("a", "b", 1), ("b", "c", 1)])
        for cuts in ([0, 1, 2], [0, 2], [0], [], [2, 1, 0], [0, 0, 2]):
            ahead = list(cuts)
            answer(lambda tariff, journey: price_of(tariff, journey, cuts), tariff, ["a", "b", "c"])
            self.assertEqual(cuts, ahead)

    def test_lines_that_are_handed_in(self):
        for lines in (["a b 1", "b a 2"], ["a b 1", "a b 2"], ["a b 1", "x"], []):
            ahead = list(lines)
            answer(lambda tariff, journey: tariff_of(lines), None, None)
            self.assertEqual(lines, ahead)

    def test_changing_what_was_handed_in_changes_no_tariff(self):
        lines = ["a b 1", "b a 2"]
        tariff = tariff_of(lines)
        lines.clear()
        self.assertEqual(tariff.told(), [("a", "b", 1), ("b", "a", 2)])

    def test_writing_a_tariff_changes_nothing(self):
        tariff = Tariff(many_rows(12))
        lines_of(tariff)
        self.assertEqual(tariff.told(), many_rows(12))


class NewListsTest(unittest.TestCase):

    def setUp(self):
        self.tariff = Tariff([("a", "b", 1), ("b", "c", 1), ("a", "c", 2), ("c", "d", 1)])
        self.journey = ["a", "b", "c", "d"]

    def told(self):
        tariff, journey = self.tariff, self.journey
        return {
            "told": tariff.told(),
            "need_journey": need_journey(journey),
            "held": held(tariff, journey),
            "left": left(tariff, journey),
            "parted": parted(tariff, journey),
            "priced": priced(tariff, journey)[1],
            "bill": bill(tariff, journey),
            "lines_of": lines_of(tariff),
        }

    def expected(self):
        return {
            "told": [("a", "b", 1), ("b", "c", 1), ("a", "c", 2), ("c", "d", 1)],
            "need_journey": ["a", "b", "c", "d"],
            "held": [[1, 2], [2], [3], []],
            "left": [3, 2, 1, 0],
            "parted": [0, 2, 3],
            "priced": [0, 2, 3],
            "bill": ["a c 2", "c d 1", "all 3"],
            "lines_of": ["a b 1", "b c 1", "a c 2", "c d 1"],
        }

    def test_emptying_what_is_told_changes_nothing(self):
        for _ in range(3):
            told = self.told()
            self.assertEqual(told, self.expected())
            for ends in told["held"]:
                ends.clear()
            for some in told.values():
                some.clear()
        self.assertEqual(self.journey, ["a", "b", "c", "d"])

    def test_changing_what_is_told_changes_nothing(self):
        for _ in range(3):
            told = self.told()
            self.assertEqual(told, self.expected())
            for ends in told["held"]:
                ends.append(7)
            for some in told.values():
                some[0] = "x"
                some.append("y")
                some.reverse()
        self.assertEqual(self.journey, ["a", "b", "c", "d"])

    def test_what_was_told_stays_when_more_is_asked(self):
        first = self.told()
        self.tariff.put("b", "d", 1)
        other = Tariff([("d", "c", 5)])
        answers(other, ["d", "c"])
        self.told()
        self.assertEqual(first, self.expected())

    def test_lists_within_a_list_are_not_the_same_one(self):
        for tariff, journey in ((self.tariff, self.journey), (Tariff([]), self.journey)):
            told = held(tariff, journey)
            for ends in told:
                ends.append(7)
            self.assertEqual([ends.count(7) for ends in told], [1] * 4)

    def test_all_of_a_tuple_may_be_asked_again(self):
        price, cuts = priced(self.tariff, self.journey)
        cuts.clear()
        self.assertEqual(priced(self.tariff, self.journey), (price, [0, 2, 3]))
        self.assertEqual(parted(self.tariff, self.journey), [0, 2, 3])


class RowsOfNowTest(Refusing):

    def test_answers_behind_put(self):
        tariff, journey = Tariff([]), ["a", "b", "c"]
        self.assertEqual(left(tariff, journey), [None, None, 0])
        self.assert_refused(NoParting, bill, tariff, journey)
        tariff.put("a", "b", 5)
        self.assertEqual(held(tariff, journey), [[1], [], []])
        self.assert_refused(NoParting, parted, tariff, journey)
        tariff.put("b", "c", 4)
        self.assertEqual(priced(tariff, journey), (9, [0, 1, 2]))
        self.assertEqual(fault(tariff, journey, 0, 2), ("price",))
        tariff.put("a", "c", 6)
        self.assertIsNone(fault(tariff, journey, 0, 2))
        self.assertEqual(left(tariff, journey), [6, 4, 0])
        self.assertEqual(bill(tariff, journey), ["a c 6", "all 6"])
        self.assertEqual(lines_of(tariff), ["a b 5", "b c 4", "a c 6"])

    def test_a_new_row_may_make_a_stretch_fail(self):
        tariff, journey = Tariff([("a", "c", 6)]), ["a", "b", "c"]
        self.assertEqual(priced(tariff, journey), (6, [0, 2]))
        self.assertEqual(price_of(tariff, journey, [0, 2]), 6)
        tariff.put("b", "c", 7)
        self.assertEqual(fault(tariff, journey, 0, 2), ("dearer", 1, 2))
        self.assertEqual(left(tariff, journey), [None, 7, 0])
        self.assert_refused(NoParting, parted, tariff, journey)

    def test_as_a_new_tariff_of_the_same_rows_says(self):
        for tariff, journey in cases(70, 40):
            grown, rows = Tariff([]), tariff.told()
            for number, row in enumerate(rows):
                grown.put(*row)
                fresh = Tariff(rows[:number + 1])
                with self.subTest(journey=journey, rows=fresh.told()):
                    self.assertEqual(answers(grown, journey), answers(fresh, journey))

    def test_behind_a_put_that_was_refused(self):
        refused = ((BadPlace, ("A", "b", 1)), (BadPlace, ("a", "", 1)), (BadPlace, ("a", "a", 1)),
                   (BadPrice, ("b", "d", -1)), (BadPrice, ("b", "d", 10 ** 12 + 1)),
                   (TwiceTold, ("a", "b", 0)), (TwiceTold, ("a", "c", 9)))
        journey = ["a", "b", "c", "d"]
        tariff = Tariff([("a", "b", 1), ("b", "c", 1), ("a", "c", 2), ("c", "d", 1)])
        ahead = answers(tariff, journey)
        lines = lines_of(tariff)
        for kind, row in refused:
            with self.subTest(row):
                self.assert_refused(kind, tariff.put, *row)
                self.assertEqual(answers(tariff, journey), ahead)
                self.assertEqual(lines_of(tariff), lines)
        tariff.put("b", "d", 0)
        self.assertEqual(fault(tariff, journey, 1, 3), ("dearer", 1, 2))

    def test_behind_a_put_of_a_full_tariff(self):
        tariff = Tariff(many_rows(160))
        self.assert_refused(TooMany, tariff.put, "x", "y", 1)
        self.assertEqual(left(tariff, ["x", "y"]), [None, 0])
        self.assertEqual(lines_of(tariff), lines_of(Tariff(many_rows(160))))

    def test_two_tariffs_asked_in_turn(self):
        journey = ["a", "b", "c"]
        first = Tariff([("a", "b", 1), ("b", "c", 1)])
        second = Tariff([("a", "c", 9)])
        for _ in range(3):
            self.assertEqual(priced(first, journey), (2, [0, 1, 2]))
            self.assertEqual(priced(second, journey), (9, [0, 2]))
            self.assertEqual(left(first, journey), [2, 1, 0])
            self.assertEqual(left(second, journey), [9, None, 0])
        second.put("a", "b", 10)
        self.assertEqual(priced(first, journey), (2, [0, 1, 2]))
        self.assert_refused(NoParting, priced, second, journey)

    def test_two_journeys_asked_in_turn(self):
        tariff = Tariff([("a", "b", 1), ("b", "a", 2)])
        for _ in range(3):
            self.assertEqual(priced(tariff, ["a", "b"]), (1, [0, 1]))
            self.assertEqual(priced(tariff, ["b", "a"]), (2, [0, 1]))
            self.assertEqual(held(tariff, ["a", "b", "a"]), [[1], [2], []])

    def test_a_journey_that_the_caller_changed(self):
        tariff, journey = Tariff([("a", "b", 1), ("b", "c", 2)]), ["a", "b"]
        told = bill(tariff, journey)
        journey.append("c")
        self.assertEqual(bill(tariff, journey), ["a b 1", "b c 2", "all 3"])
        self.assertEqual(told, ["a b 1", "all 1"])


if __name__ == "__main__":
    unittest.main()
