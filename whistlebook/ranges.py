"""The one check that a number lies in its range."""

from whistlebook.errors import OutOfRange


def check_range(value, least, most):
    if value < least or value > most:
        raise OutOfRange(f"{value} does not lie from {least} to {most}")
