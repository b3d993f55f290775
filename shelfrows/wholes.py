"""Whole numbers: what is one, and what is one within limits."""


def is_whole(thing):
    """Tell whether a thing is a whole number."""
    # Python counts True and False among its integers, the document does not.
    return isinstance(thing, int) and not isinstance(thing, bool)


def is_whole_within(thing, least, most):
    """Tell whether a thing is a whole number from the least to the most."""
    return is_whole(thing) and least <= thing <= most
