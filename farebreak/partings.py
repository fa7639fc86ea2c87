"""Partings of a journey: their prices, what is left, and the one that is told."""

from farebreak.errors import BadCuts, NoParting, NotHeld
from farebreak.journeys import need_journey
from farebreak.stretches import fault_of, held, stretch_price


def stretches_of(cuts):
    """Give a list of the stretches between cuts, each by its two numbers."""
    return list(zip(cuts, cuts[1:]))


def tells_parting(cuts, many):
    """Tell whether the cuts tell a parting of a journey of that many places."""
    if len(cuts) < 2 or cuts[0] != 0 or cuts[-1] != many - 1:
        return False
    # Between the two ends, rising numbers cannot be outside of the journey.
    return all([at < to for at, to in stretches_of(cuts)])


def price_of(tariff, journey, cuts):
    """Give the price of the parting that the cuts tell."""
    places = need_journey(journey)
    if not tells_parting(cuts, len(places)):
        raise BadCuts("the cuts tell no parting of the journey")
    total = 0
    for at, to in stretches_of(cuts):
        if fault_of(tariff, places, at, to) is not None:
            raise NotHeld(f"the stretch from {at} to {to} does not hold")
        total += stretch_price(tariff, places, at, to)
    return total


def best_on(tariff, places, at, ends, ways):
    """Give the best way on from a number to the last place, or None."""
    found = []
    for to in ends:
        if ways[to] is not None:
            price, many, _ = ways[to]
            found.append((price + stretch_price(tariff, places, at, to), many + 1, -to))
    return min(found, default=None)


def ways_on(tariff, places):
    """Give for each number the best way on from there, or None where there is none.

    A way is told by what is left, how many stretches it has, and the number
    where the first of them ends, below nought.
    """
    # With that number below nought the least of the ways is the one to be told:
    # the price comes first, then the fewest stretches, then the latest end.
    ends = held(tariff, places)
    last = len(places) - 1
    ways = [None] * last + [(0, 0, -last)]
    for at in reversed(range(last)):
        ways[at] = best_on(tariff, places, at, ends[at], ways)
    return ways


def cuts_along(ways):
    """Give the cuts of the best way from the first number on."""
    cuts = [0]
    while cuts[-1] < len(ways) - 1:
        _, _, end = ways[cuts[-1]]
        cuts.append(-end)
    return cuts


def left(tariff, journey):
    """Give for each number what is left from there, or None where no stretches lead on."""
    ways = ways_on(tariff, need_journey(journey))
    return [None if way is None else way[0] for way in ways]


def priced(tariff, journey):
    """Give the price of the told parting and the list of its cuts."""
    ways = ways_on(tariff, need_journey(journey))
    if ways[0] is None:
        raise NoParting("no parting of the journey keeps the checks")
    price, _, _ = ways[0]
    return (price, cuts_along(ways))


def parted(tariff, journey):
    """Give the list of cuts of the told parting."""
    _, cuts = priced(tariff, journey)
    return cuts
