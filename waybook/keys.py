"""Which list of whole numbers stands ahead of another."""


def less(one, other):
    """Whether the list one stands ahead of the list other."""
    for left, right in zip(one, other):
        if left != right:
            return left < right
    return len(one) < len(other)


def below(rows, key):
    """How many of the rows, none of which stands behind a later one, stand ahead of the key."""
    # Rows that stand ahead of the key all come first, so halving finds where they end.
    low = 0
    high = len(rows)
    while low < high:
        middle = (low + high) // 2
        if less(rows[middle], key):
            low = middle + 1
        else:
            high = middle
    return low
