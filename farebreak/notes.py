"""Bills of journeys, and tariffs written as lines."""

from farebreak.errors import BadLine
from farebreak.journeys import need_journey
from farebreak.partings import priced, stretches_of
from farebreak.stretches import stretch_price
from farebreak.tariff import Tariff

MOST_FIGURES = 13


def line_of(here, there, price):
    """Write what it costs to go from one place to another."""
    return f"{here} {there} {price}"


def bill(tariff, journey):
    """Give a line for each stretch of the told parting, and one for all of it."""
    places = need_journey(journey)
    price, cuts = priced(tariff, places)
    lines = [
        line_of(places[at], places[to], stretch_price(tariff, places, at, to))
        for at, to in stretches_of(cuts)
    ]
    return lines + [f"all {price}"]


def lines_of(tariff):
    """Give a line for each row of a tariff, in order."""
    return [line_of(here, there, price) for here, there, price in tariff.told()]


def are_figures(word):
    """Tell whether a word is 1 to 13 figures, the first no nought but for `0` itself."""
    if not 1 <= len(word) <= MOST_FIGURES:
        return False
    if word[0] == "0":
        return word == "0"
    # isdigit would also take figures other than 0 to 9.
    return all("0" <= sign <= "9" for sign in word)


def row_of(line):
    """Give the row that a line tells, or refuse what is not written so."""
    # A blank alone parts words: a tab or a line end is a sign within a word.
    words = line.split(" ")
    if len(words) != 3 or "" in words:
        raise BadLine("a line is three words with one blank between")
    here, there, figures = words
    if not are_figures(figures):
        raise BadLine(f"the third word of a line is 1 to {MOST_FIGURES} figures")
    return (here, there, int(figures))


def tariff_of(lines):
    """Give a tariff of the rows that the lines tell."""
    # All lines are looked at ahead of the first row.
    rows = [row_of(line) for line in lines]
    return Tariff(rows)
