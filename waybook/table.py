"""The table: its rows, the orders that it keeps, and what is asked of it."""

from waybook.checks import check_column, check_order, check_row, check_value, check_width, check_wish, whole
from waybook.errors import BadOrder, Full, NoRow
from waybook.orders import Kept
from waybook.wishes import fits

MOST_ROWS = 200
MOST_ORDERS = 8


def cost(kept, wish):
    """The cost of a kept order for the wish."""
    looked = len(kept.stretch(wish))
    if kept.covers(wish):
        return looked
    return 2 * looked


class Table:
    """A table of rows of whole numbers, and as many orders of them as it is told."""

    def __init__(self, width):
        check_width(width)
        self.width = width
        self._rows = {}
        self._next = 0
        self._kept = []

    def put(self, row):
        """Take the row, and give its number."""
        check_row(row, self.width)
        if len(self._rows) == MOST_ROWS:
            raise Full("a table holds 200 rows at most")
        number = self._next
        self._next = number + 1
        # A tuple of its own: the caller may go on to change the list.
        self._rows[number] = tuple(row)
        for kept in self._kept:
            kept.put(number, self._rows[number])
        return number

    def drop(self, number):
        """Drop the row of that number."""
        row = self.row(number)
        for kept in self._kept:
            kept.drop(number, row)
        del self._rows[number]

    def change(self, number, column, value):
        """Let another whole number stand in a column of the row of that number."""
        old = self.row(number)
        check_column(column, self.width)
        check_value(value)
        new = old[:column] + (value,) + old[column + 1:]
        for kept in self._kept:
            kept.drop(number, old)
            kept.put(number, new)
        self._rows[number] = new

    def row(self, number):
        """The row of that number."""
        # True would be found under 1, and a list cannot be looked up at all.
        if not whole(number) or number not in self._rows:
            raise NoRow("this is not the number of a row that is there")
        return self._rows[number]

    def numbers(self):
        """The numbers of all rows, rising."""
        return sorted(self._rows)

    def tell(self, order):
        """Keep the order from now on."""
        check_order(order, self.width)
        if order in self.orders():
            raise BadOrder("this order is kept already")
        if len(self._kept) == MOST_ORDERS:
            raise BadOrder("a table keeps 8 orders at most")
        kept = Kept(order)
        for number in self.numbers():
            kept.put(number, self._rows[number])
        self._kept.append(kept)

    def forget(self, order):
        """Keep the order no more."""
        self._kept.remove(self._find(order))

    def orders(self):
        """The orders kept, as they were told."""
        return [kept.columns for kept in self._kept]

    def listed(self, order):
        """The numbers of all rows, in the order's order."""
        return self._find(order).numbers()

    def costs(self, wish):
        """Each way and its cost: walking all, then each order kept, as they were told."""
        check_wish(wish, self.width)
        return [(None, len(self._rows))] + [(kept.columns, cost(kept, wish)) for kept in self._kept]

    def plan(self, wish):
        """The way that is chosen and its cost."""
        # Of several that cost the least, min gives the first one.
        return min(self.costs(wish), key=lambda pair: pair[1])

    def walked(self, way, wish):
        """The numbers at which the way looks, as it comes to them."""
        kept = None if way is None else self._find(way)
        check_wish(wish, self.width)
        if kept is None:
            return self.numbers()
        return kept.stretch(wish)

    def ask_by(self, way, wish):
        """The numbers of the rows that fit the wish, found by that way."""
        return sorted([number for number in self.walked(way, wish) if fits(self._rows[number], wish)])

    def ask(self, wish):
        """The numbers of the rows that fit the wish, found by the way that is chosen."""
        way, _ = self.plan(wish)
        return self.ask_by(way, wish)

    def _find(self, order):
        check_order(order, self.width)
        for kept in self._kept:
            if kept.columns == order:
                return kept
        raise BadOrder("this order is not kept")
