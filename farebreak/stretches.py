"""Stretches of a journey: their prices, and what is wrong with them."""

from farebreak.errors import BadCuts
from farebreak.journeys import need_journey


def stretch_price(tariff, places, at, to):
    """Give the price of a stretch, or None where it has none."""
    return tariff.price(places[at], places[to])


def first_twice(places, at, to):
    """Give the least number whose place stands in the stretch ahead of it, or None."""
    seen = set()
    for number in range(at, to + 1):
        if places[number] in seen:
            return number
        seen.add(places[number])
    return None


def first_dearer(tariff, places, at, to, price):
    """Give the ends of the first stretch within of a greater price, or None."""
    for begin in range(at, to):
        # The stretch itself comes by here too, but is never dearer than itself.
        for end in range(begin + 1, to + 1):
            within = stretch_price(tariff, places, begin, end)
            if within is not None and within > price:
                return (begin, end)
    return None


def fault_of(tariff, places, at, to):
    """Give the fault of a stretch of places that are known to be a journey."""
    price = stretch_price(tariff, places, at, to)
    if price is None:
        return ("price",)
    twice = first_twice(places, at, to)
    if twice is not None:
        return ("twice", twice)
    dearer = first_dearer(tariff, places, at, to, price)
    if dearer is not None:
        begin, end = dearer
        return ("dearer", begin, end)
    return None


def fault(tariff, journey, at, to):
    """Give the first thing that is wrong with a stretch, or None where it holds."""
    places = need_journey(journey)
    if not 0 <= at < to < len(places):
        raise BadCuts("the two numbers tell no stretch of the journey")
    return fault_of(tariff, places, at, to)


def held(tariff, journey):
    """Give for each number the list of all numbers where a stretch from it ends and holds."""
    places = need_journey(journey)
    many = len(places)
    return [
        [to for to in range(at + 1, many) if fault_of(tariff, places, at, to) is None]
        for at in range(many)
    ]
