"""The one check that a number lies in its range."""

from whistlebook.errors import OutOfRange


def check_range(value, most):
    if value < 1 or value > most:
        raise OutOfRange(f"{value} does not lie from 1 to {most}")
