"""Rows of numbers."""


def all_rows(below, length):
    """All rows of that length with numbers from 0 on and below that number, the first row first."""
    rows = [[]]
    for place in range(length):
        longer = []
        for row in rows:
            for number in range(below):
                longer.append(row + [number])
        rows = longer
    return rows
