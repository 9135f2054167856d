"""What values look like: numbers, and ascending tuples of them."""


def is_number(thing):
    """Tell whether this is an int that is neither True nor False."""
    return isinstance(thing, int) and not isinstance(thing, bool)


def is_from(thing, least, most):
    """Tell whether this is a number from least to most, both let."""
    return is_number(thing) and least <= thing <= most


def is_index(thing, many):
    """Tell whether this is a number of one of so many, counted from 0."""
    return is_from(thing, 0, many - 1)


def is_tuple_of(thing, least, most):
    """Tell whether this is a tuple of least to most parts."""
    return isinstance(thing, tuple) and least <= len(thing) <= most


def is_ascending(thing, many):
    """Tell whether this is an ascending tuple of numbers from 0 to below many."""
    if not isinstance(thing, tuple):
        return False
    ahead = -1
    for part in thing:
        if not is_number(part) or not ahead < part < many:
            return False
        ahead = part
    return True
