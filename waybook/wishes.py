"""Wishes: which rows fit one, and what one comes to column by column."""


def fits(row, wish):
    """Whether the row fits all triples of the wish."""
    return all([fits_triple(row, triple) for triple in wish])


def fits_triple(row, triple):
    """Whether what stands in the triple's column is within its ends."""
    column, low, high = triple
    if low is not None and row[column] < low:
        return False
    return high is None or row[column] <= high


def merged(wish):
    """The merged wish: one triple for each column of the wish, the columns rising."""
    columns = sorted({triple[0] for triple in wish})
    return [merged_triple(column, wish) for column in columns]


def merged_triple(column, wish):
    """The one triple that says what all the wish's triples of the column say together."""
    spoken = [triple for triple in wish if triple[0] == column]
    lows = [triple[1] for triple in spoken if triple[1] is not None]
    highs = [triple[2] for triple in spoken if triple[2] is not None]
    return (column, max(lows, default=None), min(highs, default=None))
