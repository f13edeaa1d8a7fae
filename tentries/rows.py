"""Rows of eleven numbers below P, and what they come to."""

P = 2305843009213693951
ROW_LENGTH = 11


def comes_to(row, x):
    """What the row (a0 first) comes to at x: 0 to P - 1."""
    total = 0
    for number in reversed(row):
        total = (total * x + number) % P
    return total
