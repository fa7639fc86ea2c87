"""What several tests need: refusals, journeys, tariffs and a search of all partings.

The search goes by the words of DOC.md alone and uses nothing of the program but
Tariff.price.
"""

import unittest
from itertools import combinations

from farebreak.errors import FareError
from farebreak.tariff import Tariff

TOP = 1000000000000


class Refusing(unittest.TestCase):

    def assert_refused(self, kind, call, *things):
        with self.assertRaises(kind) as caught:
            call(*things)
        self.assertIs(type(caught.exception), kind)
        self.assertIsInstance(caught.exception, FareError)
        self.assertIsInstance(caught.exception, ValueError)


class Chance:
    """Numbers that look like chance and are the same in each run."""

    def __init__(self, seed):
        self.state = seed

    def below(self, limit):
        self.state = (self.state * 6364136223846793005 + 1442695040888963407) % 2 ** 64
        return (self.state >> 33) % limit


def names(count):
    """That many places, each another one."""
    return ["p" + chr(ord("a") + k // 26) + chr(ord("a") + k % 26) for k in range(count)]


def along(places, prices):
    """A tariff that prices stretches of a journey, told by their two numbers."""
    return Tariff([(places[at], places[to], price) for (at, to), price in prices.items()])


def many_rows(count):
    """That many rows, each of another way and of a price of its own."""
    places = ["a" + chr(ord("a") + k) for k in range(20)]
    ways = [(here, there) for here in places for there in places if here != there]
    return [(here, there, 7 * k) for k, (here, there) in enumerate(ways[:count])]


def plainly_holds(tariff, journey, at, to):
    """Whether a stretch holds, by the words of point 7."""
    price = tariff.price(journey[at], journey[to])
    if price is None:
        return False
    if len(set(journey[at:to + 1])) < to + 1 - at:
        return False
    within = [tariff.price(journey[k], journey[m])
              for k, m in combinations(range(at, to + 1), 2)]
    return all(other is None or other <= price for other in within)


def all_partings(tariff, journey, start=0):
    """A dict of the price of each parting from a number on that keeps the checks."""
    last = len(journey) - 1
    if start == last:
        return {(last,): 0}
    found = {}
    between = range(start + 1, last)
    for count in range(len(between) + 1):
        for some in combinations(between, count):
            cuts = (start,) + some + (last,)
            stretches = list(zip(cuts, cuts[1:]))
            if all(plainly_holds(tariff, journey, at, to) for at, to in stretches):
                found[cuts] = sum(tariff.price(journey[at], journey[to])
                                  for at, to in stretches)
    return found


def told_of(partings):
    """The price and cuts that point 11 tells of some partings, or None."""
    if not partings:
        return None
    least = min(partings.values())
    cheap = [cuts for cuts, price in partings.items() if price == least]
    fewest = min(len(cuts) for cuts in cheap)
    # Of cuts that are as many, the greatest ones end latest, first by first.
    return (least, list(max(cuts for cuts in cheap if len(cuts) == fewest)))


def loose_case(chance):
    """A short journey, places coming again, and a tariff of small prices with gaps."""
    places = "abcde"[:2 + chance.below(4)]
    journey = [places[chance.below(len(places))]]
    for _ in range(1 + chance.below(6)):
        journey.append([p for p in places if p != journey[-1]][chance.below(len(places) - 1)])
    rows = [(here, there, chance.below(4))
            for here in places for there in places
            if here != there and chance.below(4) > 0]
    return Tariff(rows), journey


def widening_case(chance):
    """A short journey, no place coming again, and a tariff that lets many stretches hold."""
    count = 2 + chance.below(6)
    journey = names(count)
    prices = {}
    for wide in range(1, count):
        for at in range(count - wide):
            within = [price for (k, m), price in prices.items() if at <= k and m <= at + wide]
            if chance.below(6) > 0:
                more = (wide - 1) * chance.below(2) if wide > 1 else 1 + chance.below(2)
                prices[at, at + wide] = max(within, default=0) + more
    return along(journey, prices), journey


def cases(seed, count):
    """That many small cases of each kind: a tariff and a journey."""
    chance = Chance(seed)
    for _ in range(count):
        yield loose_case(chance)
        yield widening_case(chance)
