"""Columns of a book, as a list, with one more put in."""


def rows_in(columns):
    """How many rows the columns have; none, if there are no columns."""
    return len(columns[0]) if columns else 0


def with_nought(columns, place):
    """The columns with one of noughts at the place."""
    return columns[:place] + [tuple([0 for _ in range(rows_in(columns))])] + columns[place:]


def with_unit(columns, place):
    """The columns with one at the place that has 1 in a row of its own, where all others have 0."""
    longer = [column + (0,) for column in columns]
    return longer[:place] + [tuple([0 for _ in range(rows_in(columns))]) + (1,)] + longer[place:]
