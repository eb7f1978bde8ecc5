"""Whole numbers, and the bounds within which they are asked for."""

from sumspan.errors import BadKind


def is_whole(value):
    # Python counts True and False as ints; here they are no whole numbers.
    return isinstance(value, int) and not isinstance(value, bool)


def is_within(value, least, most):
    return is_whole(value) and least <= value <= most


def look_within(what, value, least, most):
    if not is_within(value, least, most):
        raise BadKind(f"{what} are a whole number from {least} to {most}")
