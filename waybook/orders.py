"""Orders that are kept, and the stretches found along them."""

from waybook.keys import below
from waybook.wishes import merged


def first_and_last(columns, wish):
    """What the keys of the stretch begin with at least, and what they begin with at most."""
    ends = {column: (low, high) for column, low, high in merged(wish)}
    first = []
    last = []
    for column in columns:
        low, high = ends.get(column, (None, None))
        if low is not None:
            first.append(low)
        if high is not None:
            last.append(high)
        pinned = low is not None and low == high
        if not pinned:
            break
    return first, last


def through(keys, last):
    """How many of the keys stand ahead of all that begin with more than last."""
    if not last:
        return len(keys)
    # Whole numbers have no other one between a number and the next.
    return below(keys, last[:-1] + [last[-1] + 1])


class Kept:
    """An order that is kept."""

    def __init__(self, columns):
        self.columns = tuple(columns)
        self._keys = []

    def put(self, number, row):
        """The row of that number is there from now on."""
        key = self._key(number, row)
        self._keys.insert(below(self._keys, key), key)

    def drop(self, number, row):
        """The row of that number is there no more."""
        del self._keys[below(self._keys, self._key(number, row))]

    def numbers(self):
        """The numbers of all rows, in the order's order."""
        return [key[-1] for key in self._keys]

    def stretch(self, wish):
        """The numbers of the stretch for the wish, in the order's order."""
        first, last = first_and_last(self.columns, wish)
        # Where no number is left between the ends, the end is not behind the start.
        start = below(self._keys, first)
        end = through(self._keys, last)
        return [key[-1] for key in self._keys[start:end]]

    def covers(self, wish):
        """Whether each column of which the wish speaks is one of the order's own."""
        return all([triple[0] in self.columns for triple in wish])

    def _key(self, number, row):
        # The row's number comes last, so that rows that are alike stand by their numbers.
        return [row[column] for column in self.columns] + [number]
