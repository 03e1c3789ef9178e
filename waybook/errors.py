"""The refusals of the program."""


class BookError(ValueError):
    """Any refusal."""


class BadWidth(BookError):
    """A table's width is not from 1 to 6."""


class BadRow(BookError):
    """A row, or what is to stand in a column, is not what the table holds."""


class Full(BookError):
    """The table has no room for one more row."""


class NoRow(BookError):
    """A number is not the number of a row that is there."""


class BadColumn(BookError):
    """A column is none of the table's."""


class BadWish(BookError):
    """A wish is not well formed, or speaks of a column that is none of the table's."""


class BadOrder(BookError):
    """An order is no order, cannot be kept, or is not kept."""
