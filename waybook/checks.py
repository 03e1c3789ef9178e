"""What a table takes, and how it refuses all else."""

from waybook.errors import BadColumn, BadOrder, BadRow, BadWidth, BadWish

WIDEST = 6
MOST_TRIPLES = 20


def whole(thing):
    """Whether the thing is a whole number."""
    # Python counts True and False among the integers; the document does not.
    return isinstance(thing, int) and not isinstance(thing, bool)


def is_column(thing, width):
    """Whether the thing is a column of a table of that width."""
    return whole(thing) and 0 <= thing < width


def is_end(thing):
    """Whether the thing is an end of a triple."""
    return thing is None or whole(thing)


def is_triple(thing, width):
    """Whether the thing is a triple of a column, a low end and a high end."""
    if not isinstance(thing, tuple) or len(thing) != 3:
        return False
    column, low, high = thing
    return is_column(column, width) and is_end(low) and is_end(high)


def is_order(thing, width):
    """Whether the thing is a tuple of one or more different columns."""
    if not isinstance(thing, tuple) or len(thing) == 0:
        return False
    # Only whole numbers come to the set: a list or a dict cannot be a member of one.
    return all([is_column(item, width) for item in thing]) and len(set(thing)) == len(thing)


def check_width(width):
    """Refuse what is no width of a table."""
    if not whole(width) or width < 1 or width > WIDEST:
        raise BadWidth("a width is a whole number from 1 to 6")


def check_row(row, width):
    """Refuse what is no row of a table of that width."""
    if not isinstance(row, (list, tuple)) or len(row) != width:
        raise BadRow("a row is a list or a tuple of as many whole numbers as the table is wide")
    if not all([whole(item) for item in row]):
        raise BadRow("a row has whole numbers only")


def check_column(column, width):
    """Refuse what is no column of a table of that width."""
    if not is_column(column, width):
        raise BadColumn("this is none of the table's columns")


def check_value(value):
    """Refuse what cannot stand in a column."""
    if not whole(value):
        raise BadRow("only a whole number stands in a column")


def check_wish(wish, width):
    """Refuse what is no wish for a table of that width."""
    if not isinstance(wish, list) or len(wish) > MOST_TRIPLES:
        raise BadWish("a wish is a list of up to 20 triples")
    if not all([is_triple(item, width) for item in wish]):
        raise BadWish("a triple is a tuple of a column, a low end and a high end")


def check_order(order, width):
    """Refuse what is no order of a table of that width."""
    if not is_order(order, width):
        raise BadOrder("an order is a tuple of one or more different columns")
