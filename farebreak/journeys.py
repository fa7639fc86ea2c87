"""Journeys: places, one behind the other."""

from farebreak.errors import BadJourney, BadPlace
from farebreak.tariff import is_place

FEWEST_PLACES = 2
MOST_PLACES = 40


def need_journey(places):
    """Give a new list of the same places, or refuse what is no journey."""
    if not FEWEST_PLACES <= len(places) <= MOST_PLACES:
        raise BadJourney(f"a journey has {FEWEST_PLACES} to {MOST_PLACES} places")
    for number, place in enumerate(places):
        if not is_place(place):
            raise BadPlace(f"number {number} of the journey is no place")
        if number > 0 and place == places[number - 1]:
            raise BadJourney(f"number {number} of the journey is the place right ahead of it")
    return list(places)
