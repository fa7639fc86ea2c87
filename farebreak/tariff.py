"""Places, prices, and what it costs to go from one place to another."""

from farebreak.errors import BadPlace, BadPrice, TooMany, TwiceTold

LONGEST_PLACE = 12
HIGHEST_PRICE = 1000000000000
MOST_ROWS = 160


def is_place(thing):
    """Tell whether a thing is a text of 1 to 12 small letters."""
    if not isinstance(thing, str):
        return False
    if not 1 <= len(thing) <= LONGEST_PLACE:
        return False
    return all("a" <= sign <= "z" for sign in thing)


def is_price(thing):
    """Tell whether a thing is a whole number from 0 to the highest price."""
    # True and False are integers to Python, but no numbers here.
    if isinstance(thing, bool) or not isinstance(thing, int):
        return False
    return 0 <= thing <= HIGHEST_PRICE


class Tariff:
    """Rows of a place, another place and the price of going there."""

    def __init__(self, rows):
        # A dict keeps the order in which the ways came.
        self._prices = {}
        for here, there, price in rows:
            self.put(here, there, price)

    def put(self, here, there, price):
        """Add a row, or refuse it and change nothing."""
        if not is_place(here):
            raise BadPlace("the first of the row is no place")
        if not is_place(there):
            raise BadPlace("the second of the row is no place")
        if here == there:
            raise BadPlace("the row goes from a place to itself")
        if not is_price(price):
            raise BadPrice("the third of the row is no price")
        if (here, there) in self._prices:
            raise TwiceTold(f"the way from {here} to {there} has a row already")
        if len(self._prices) >= MOST_ROWS:
            raise TooMany(f"a tariff has at most {MOST_ROWS} rows")
        self._prices[here, there] = price

    def price(self, here, there):
        """Give what the way costs, or None where no row tells it."""
        return self._prices.get((here, there))

    def told(self):
        """Give a new list of all rows, in the order in which they came."""
        return [(here, there, price) for (here, there), price in self._prices.items()]
