"""Rows of numbers."""


def join_rows(rows):
    """The numbers of all rows, one row behind another."""
    joined = []
    for row in rows:
        joined.extend(row)
    return joined
